import Derived.Test.YtjhbckngdclleaaGreatDoorMrg39
import Derived.Test.YtjhbckngdclleaaGreatDoorMrg41
set_option linter.unusedVariables false
set_option maxRecDepth 100000
set_option maxHeartbeats 16000000
namespace Go.Proofs.YtjhbckngdclleaaGreatDoor
open Go.Proofs.Tryz Go.RowKit
open Go.Value (int)
open Go.IntKind (u64)
section
open M
theorem cfxE (args:Array Value)(w:World):(callFunc 66 args).run prog w= .ok (.enter 66 args) w:=by kernel_rfl
theorem Y.sideS {S:List Nat}{W W':World}(h:G.Sides S W W'){t:TypeId}{b:Nat}{cs:Array Value}(hb:Bk W t b cs)(hn:b∉S):Bk W' t b cs:=(h.block b hb.lt hn).trans hb
section
variable {A:Act}{w:World}{dst:Option Tmp}{ty:TypeId}{ps:String}{af:Array Edge}{gd:Option (Nat×Bool)}{x y z:Operand}{b i:Nat}
theorem buZ:Does prog (Opr dst (.build 74 #[]) ty ps af gd) A w fun v' w'=>v'= .agg #[.string ⟨#[]⟩,int u64 0,int u64 0,.bool false,.string ⟨#[]⟩,int u64 0,.string ⟨#[]⟩]∧Bl w w':=dv (by generalize A.eval=ev at*;simp [execOp,go_sem])
theorem ldE {v:Value}{g:Nat}(h:w.cell? ⟨g,0,none⟩=some v):Does prog (Opr dst (.load 76 (.global g)) ty ps af gd) A w fun v' w'=>v'=v∧Bl w w':=by
  have hg:A.eval (.global g)= .pointer (some ⟨g,0,none⟩):=rfl;have h:(execOp A.eval (Opr dst (.load 76 (.global g)) ty ps af gd)).run prog w= .ok (.value v) w:=by generalize A.eval=ev at*;simp [execOp,hg,h,go_sem]
  exact does_value h ⟨rfl,Below.refl _ _⟩
theorem buF {s:ByteArray}{T:TypeId}{x':Value}(hx:A.eval x= .iface T x'):Does prog (Opr dst (.build 150 #[(0,.const (.string s)),(1,x)]) ty ps af gd) A w fun v' w'=>v'= .agg #[.string s,.iface T x']∧Bl w w':=by
  have hc:A.eval (.const (.string s))= .string s:=rfl;have h:(execOp A.eval (Opr dst (.build 150 #[(0,.const (.string s)),(1,x)]) ty ps af gd)).run prog w= .ok (.value (.agg #[.string s,.iface T x'])) w:=by generalize A.eval=ev at*;simp [execOp,hc,hx,go_sem]
  exact does_value h ⟨rfl,Below.refl _ _⟩
theorem miF {s:ByteArray}{v:Value}(hx:A.eval x= .agg #[.string s,v]):Does prog (Opr dst (.makeInterface 150 x) ty ps af gd) A w fun v' w'=>v'=flt s v∧Bl w w':=dv (by generalize A.eval=ev at*;simp [execOp,hx,flt,go_sem])
theorem buS {v0 v1 v2 v3 v4:Value}{k:Int}{s:ByteArray}(hx:A.eval x= .agg #[v0,v1,v2,v3,v4])(hy:A.eval y=int u64 k)(hz:A.eval z= .string s):Does prog (Opr dst (.build 74 #[(0,x),(1,y),(2,z)]) ty ps af gd) A w fun v' w'=>v'= .agg #[v0,v1,v2,v3,v4,int u64 k,.string s]∧Bl w w':=dv (by generalize A.eval=ev at*;simp [execOp,hx,hy,hz,go_sem])
end
theorem wth2 (t p s:ByteArray)(i:Nat)(w:World)(h:t.size≤100000)(hp:p.size≤65535)(hs:s.size≤65535)(hr:w.heap[i]? =some (.cells #[.iface 155 (.string p),.iface 156 (.string s)] 243)):
    Cr 105 #[.string t,.slice (some ⟨i,0,none⟩) 2 2] w (.string (t++p++sizB s)):=by
  have:=with_blk t [(.iface 155 (.string p),p),(.iface 156 (.string s),sizB s)] i 2 _ _ w hr rfl rfl (by omega) (by
    intro vs hvs;simp only [List.mem_cons,List.not_mem_nil,or_false] at hvs;rcases hvs with rfl|rfl
    · exact writP p
    · exact writZ s hs) (by
      show(t++p++sizB s).size≤_
      rw [ByteArray.size_append,ByteArray.size_append,sizB_size];omega)
  exact this
section
variable (s n:ByteArray)(t:Tri)(u:ByteArray)(a0 a2:Addr)(w:World)
theorem selI_bad (hs:So w a0 a2)(h:(decide (s.size=32)&&decide (n.size=16)&&nameB u)=false):
    Cr 47 #[.string s,.string n,.agg #[int u64 (t.1:Int),int u64 (t.2.1:Int),.bool t.2.2],.string u] w (.tuple #[.agg #[.string ⟨#[]⟩,int u64 0,int u64 0,.bool false,.string ⟨#[]⟩,int u64 0,.string ⟨#[]⟩],flt ⟨#[115,105,122,101,115]⟩ (sen a0)]):=by
  have h6:=Bk.new w 27 #[int u64 (t.1:Int),int u64 (t.2.1:Int),.bool t.2.2];have hB:=balc w (Obj.cells #[int u64 (t.1:Int),int u64 (t.2.1:Int),.bool t.2.2] 27);obtain⟨W1,hW1⟩:∃W,w.alloc (Obj.cells #[int u64 (t.1:Int),int u64 (t.2.1:Int),.bool t.2.2] 27)=W:=⟨_,rfl⟩;rw [hW1] at h6 hB;have h8:=Bk.new W1 74 #[.string ⟨#[]⟩,int u64 0,int u64 0,.bool false,.string ⟨#[]⟩,int u64 0,.string ⟨#[]⟩];have hlt:w.heap.size<W1.heap.size:=h6.lt;replace hB:=hB.alloc hB.size (Obj.cells #[.string ⟨#[]⟩,int u64 0,int u64 0,.bool false,.string ⟨#[]⟩,int u64 0,.string ⟨#[]⟩] 74);obtain⟨W2,hW2⟩:∃W,W1.alloc (Obj.cells #[.string ⟨#[]⟩,int u64 0,int u64 0,.bool false,.string ⟨#[]⟩,int u64 0,.string ⟨#[]⟩] 74)=W:=⟨_,rfl⟩;rw [hW2] at h8 hB;obtain⟨b8,hb8⟩:∃b,W1.heap.size=b:=⟨_,rfl⟩;have hl8:w.heap.size≤b8:=by omega
  rw [hb8] at h8;have hc0:W2.drew.cell? ⟨0,0,none⟩=some (sen a0):=(hs.keep hB).c0
  have hc0n:0∉ [b8]:=fun h=>by
    have:=World.block_lt_of_cell? w _ hs.c0;have:=List.mem_singleton.1 h;omega
  clear h6 hlt;by_cases q1:s.size=32
  · by_cases q2:n.size=16
    · have NM:=fun w=>nmI u w
      rw [decide_eq_true q1,decide_eq_true q2] at h;rw [show nameB u=false by simpa using h] at NM;clear h;go_enter func47,ntmps47;go_wp2_with fail;refine(NM _).mono ?_;rintro e w2 ⟨rfl,rfl⟩;go_wp2;clear hW1 hW2
      refine G.pool_list (W:=W2) [b8] [.val (.agg #[.string ⟨#[]⟩,int u64 0,int u64 0,.bool false,.string ⟨#[]⟩,int u64 0,.string ⟨#[]⟩]),
          .val (sen a0),
          .val (.agg #[.string ⟨#[115,105,122,101,115]⟩,sen a0]),
          .val (flt ⟨#[115,105,122,101,115]⟩ (sen a0)),
          .set (b8) (.cells #[.string ⟨#[]⟩,int u64 0,int u64 0,.bool false,.string ⟨#[]⟩,int u64 0,.string ⟨#[]⟩] 74) (.cells #[.string ⟨#[]⟩,int u64 0,int u64 0,.bool false,.string ⟨#[]⟩,int u64 0,.string ⟨#[]⟩] 74),
          .val (flt ⟨#[115,105,122,101,115]⟩ (sen a0))] [[],[],[32],[33],[8,31],[34]] (fun f=> [(some 31,.agg #[.string ⟨#[]⟩,int u64 0,int u64 0,.bool false,.string ⟨#[]⟩,int u64 0,.string ⟨#[]⟩]),(some 32,sen a0),(some 33,.agg #[.string ⟨#[115,105,122,101,115]⟩,sen a0]),(some 34,flt ⟨#[115,105,122,101,115]⟩ (sen a0)),(none,undef),(some 9,flt ⟨#[115,105,122,101,115]⟩ (sen a0))]) (by kernel_rfl) (by kernel_rfl) (by kernel_rfl) (by kernel_rfl) (fun _=>by kernel_rfl) (G.last_of [.cells #[.string ⟨#[]⟩,int u64 0,int u64 0,.bool false,.string ⟨#[]⟩,int u64 0,.string ⟨#[]⟩] 74] (fun F R hm=>by simp at hm) (fun ob ob' k hm=>by simp at hm) (fun b ob ob' hm=>by simp at hm;simp [hm])) (fun b ob ob' hm=>by simp at hm;obtain⟨rfl,rfl,-⟩:=hm;exact h8) ?_ ?_
      · intro ix hix
        match ix,hix with
        |0,_=>exact G.obv [] rfl rfl (fun A w _ hB=>buZ)
        |1,_=>exact G.obv [] rfl rfl (fun A w _ hB=>ldE (hB.cell hc0 hc0n))
        |2,_=>exact G.obv [(32,sen a0)] rfl rfl (fun A w ⟨e0,_⟩ hB=>buF e0)
        |3,_=>exact G.obv [(33,.agg #[.string ⟨#[115,105,122,101,115]⟩,sen a0])] rfl rfl (fun A w ⟨e0,_⟩ hB=>miF e0)
        |4,_=>exact G.ob_set (fun f=> [(8,.pointer (some ⟨b8,0,none⟩)),(31,.agg #[.string ⟨#[]⟩,int u64 0,int u64 0,.bool false,.string ⟨#[]⟩,int u64 0,.string ⟨#[]⟩])]) rfl rfl rfl (by simp) h8.lt (fun j ob1 ob2 h=>by (rcases j with _|_|_|_|_|_|j)<;>simp [G.kindOf] at h⊢ <;>omega) (fun _=>by kernel_rfl) (fun f A w ⟨e0,e1,_⟩ hh hr=>Y.puA e0 e1 hr rfl (by kernel_rfl) (by kernel_rfl))
        |5,_=>exact G.obv [(34,flt ⟨#[115,105,122,101,115]⟩ (sen a0))] rfl rfl (fun A w ⟨e0,_⟩ hB=>Y.assign e0)
        |ix+6,h=>exact absurd h (by simp)
      intro f W3 hS _ _ _ hset;have q8:Bk W3 74 b8 #[.string ⟨#[]⟩,int u64 0,int u64 0,.bool false,.string ⟨#[]⟩,int u64 0,.string ⟨#[]⟩]:=hset 4 _ _ _ rfl (by decide);have hB3:Bl w W3:=hS.under hB.drew (by intro b h;rw [List.mem_singleton.1 h];exact hl8) hB.size;clear hset hS;simp only [puts,List.foldl,Act.put,List.setIfInBounds_toArray,List.set_cons_zero,List.set_cons_succ];go_wp2;exact bodyPost_ret (v:= .tuple #[.agg #[.string ⟨#[]⟩,int u64 0,int u64 0,.bool false,.string ⟨#[]⟩,int u64 0,.string ⟨#[]⟩],flt ⟨#[115,105,122,101,115]⟩ (sen a0)]) (bk_res2 (fn:=Tryz.f47) (p:=8) (u:=9) results47 _ rfl q8 underlying74 rfl (by kernel_rfl)) rfl ⟨rfl,hB3⟩
    · have q1':(s.size:Int)=32:=by omega
      have q2': ¬ ((n.size:Int)=16):=by omega
      clear h;go_enter func47,ntmps47;go_wp2;clear hW1 hW2
      refine G.pool_list (W:=W2) [b8] [.val (.agg #[.string ⟨#[]⟩,int u64 0,int u64 0,.bool false,.string ⟨#[]⟩,int u64 0,.string ⟨#[]⟩]),
          .val (sen a0),
          .val (.agg #[.string ⟨#[115,105,122,101,115]⟩,sen a0]),
          .val (flt ⟨#[115,105,122,101,115]⟩ (sen a0)),
          .set (b8) (.cells #[.string ⟨#[]⟩,int u64 0,int u64 0,.bool false,.string ⟨#[]⟩,int u64 0,.string ⟨#[]⟩] 74) (.cells #[.string ⟨#[]⟩,int u64 0,int u64 0,.bool false,.string ⟨#[]⟩,int u64 0,.string ⟨#[]⟩] 74),
          .val (flt ⟨#[115,105,122,101,115]⟩ (sen a0))] [[],[],[32],[33],[8,31],[34]] (fun f=> [(some 31,.agg #[.string ⟨#[]⟩,int u64 0,int u64 0,.bool false,.string ⟨#[]⟩,int u64 0,.string ⟨#[]⟩]),(some 32,sen a0),(some 33,.agg #[.string ⟨#[115,105,122,101,115]⟩,sen a0]),(some 34,flt ⟨#[115,105,122,101,115]⟩ (sen a0)),(none,undef),(some 9,flt ⟨#[115,105,122,101,115]⟩ (sen a0))]) (by kernel_rfl) (by kernel_rfl) (by kernel_rfl) (by kernel_rfl) (fun _=>by kernel_rfl) (G.last_of [.cells #[.string ⟨#[]⟩,int u64 0,int u64 0,.bool false,.string ⟨#[]⟩,int u64 0,.string ⟨#[]⟩] 74] (fun F R hm=>by simp at hm) (fun ob ob' k hm=>by simp at hm) (fun b ob ob' hm=>by simp at hm;simp [hm])) (fun b ob ob' hm=>by simp at hm;obtain⟨rfl,rfl,-⟩:=hm;exact h8) ?_ ?_
      · intro ix hix
        match ix,hix with
        |0,_=>exact G.obv [] rfl rfl (fun A w _ hB=>buZ)
        |1,_=>exact G.obv [] rfl rfl (fun A w _ hB=>ldE (hB.cell hc0 hc0n))
        |2,_=>exact G.obv [(32,sen a0)] rfl rfl (fun A w ⟨e0,_⟩ hB=>buF e0)
        |3,_=>exact G.obv [(33,.agg #[.string ⟨#[115,105,122,101,115]⟩,sen a0])] rfl rfl (fun A w ⟨e0,_⟩ hB=>miF e0)
        |4,_=>exact G.ob_set (fun f=> [(8,.pointer (some ⟨b8,0,none⟩)),(31,.agg #[.string ⟨#[]⟩,int u64 0,int u64 0,.bool false,.string ⟨#[]⟩,int u64 0,.string ⟨#[]⟩])]) rfl rfl rfl (by simp) h8.lt (fun j ob1 ob2 h=>by (rcases j with _|_|_|_|_|_|j)<;>simp [G.kindOf] at h⊢ <;>omega) (fun _=>by kernel_rfl) (fun f A w ⟨e0,e1,_⟩ hh hr=>Y.puA e0 e1 hr rfl (by kernel_rfl) (by kernel_rfl))
        |5,_=>exact G.obv [(34,flt ⟨#[115,105,122,101,115]⟩ (sen a0))] rfl rfl (fun A w ⟨e0,_⟩ hB=>Y.assign e0)
        |ix+6,h=>exact absurd h (by simp)
      intro f W3 hS _ _ _ hset;have q8:Bk W3 74 b8 #[.string ⟨#[]⟩,int u64 0,int u64 0,.bool false,.string ⟨#[]⟩,int u64 0,.string ⟨#[]⟩]:=hset 4 _ _ _ rfl (by decide);have hB3:Bl w W3:=hS.under hB.drew (by intro b h;rw [List.mem_singleton.1 h];exact hl8) hB.size;clear hset hS;simp only [puts,List.foldl,Act.put,List.setIfInBounds_toArray,List.set_cons_zero,List.set_cons_succ];go_wp2;exact bodyPost_ret (v:= .tuple #[.agg #[.string ⟨#[]⟩,int u64 0,int u64 0,.bool false,.string ⟨#[]⟩,int u64 0,.string ⟨#[]⟩],flt ⟨#[115,105,122,101,115]⟩ (sen a0)]) (bk_res2 (fn:=Tryz.f47) (p:=8) (u:=9) results47 _ rfl q8 underlying74 rfl (by kernel_rfl)) rfl ⟨rfl,hB3⟩
  · have q1': ¬ ((s.size:Int)=32):=by omega
    clear h;go_enter func47,ntmps47;go_wp2;clear hW1 hW2
    refine G.pool_list (W:=W2) [b8] [.val (.agg #[.string ⟨#[]⟩,int u64 0,int u64 0,.bool false,.string ⟨#[]⟩,int u64 0,.string ⟨#[]⟩]),
        .val (sen a0),
        .val (.agg #[.string ⟨#[115,105,122,101,115]⟩,sen a0]),
        .val (flt ⟨#[115,105,122,101,115]⟩ (sen a0)),
        .set (b8) (.cells #[.string ⟨#[]⟩,int u64 0,int u64 0,.bool false,.string ⟨#[]⟩,int u64 0,.string ⟨#[]⟩] 74) (.cells #[.string ⟨#[]⟩,int u64 0,int u64 0,.bool false,.string ⟨#[]⟩,int u64 0,.string ⟨#[]⟩] 74),
        .val (flt ⟨#[115,105,122,101,115]⟩ (sen a0))] [[],[],[32],[33],[8,31],[34]] (fun f=> [(some 31,.agg #[.string ⟨#[]⟩,int u64 0,int u64 0,.bool false,.string ⟨#[]⟩,int u64 0,.string ⟨#[]⟩]),(some 32,sen a0),(some 33,.agg #[.string ⟨#[115,105,122,101,115]⟩,sen a0]),(some 34,flt ⟨#[115,105,122,101,115]⟩ (sen a0)),(none,undef),(some 9,flt ⟨#[115,105,122,101,115]⟩ (sen a0))]) (by kernel_rfl) (by kernel_rfl) (by kernel_rfl) (by kernel_rfl) (fun _=>by kernel_rfl) (G.last_of [.cells #[.string ⟨#[]⟩,int u64 0,int u64 0,.bool false,.string ⟨#[]⟩,int u64 0,.string ⟨#[]⟩] 74] (fun F R hm=>by simp at hm) (fun ob ob' k hm=>by simp at hm) (fun b ob ob' hm=>by simp at hm;simp [hm])) (fun b ob ob' hm=>by simp at hm;obtain⟨rfl,rfl,-⟩:=hm;exact h8) ?_ ?_
    · intro ix hix
      match ix,hix with
      |0,_=>exact G.obv [] rfl rfl (fun A w _ hB=>buZ)
      |1,_=>exact G.obv [] rfl rfl (fun A w _ hB=>ldE (hB.cell hc0 hc0n))
      |2,_=>exact G.obv [(32,sen a0)] rfl rfl (fun A w ⟨e0,_⟩ hB=>buF e0)
      |3,_=>exact G.obv [(33,.agg #[.string ⟨#[115,105,122,101,115]⟩,sen a0])] rfl rfl (fun A w ⟨e0,_⟩ hB=>miF e0)
      |4,_=>exact G.ob_set (fun f=> [(8,.pointer (some ⟨b8,0,none⟩)),(31,.agg #[.string ⟨#[]⟩,int u64 0,int u64 0,.bool false,.string ⟨#[]⟩,int u64 0,.string ⟨#[]⟩])]) rfl rfl rfl (by simp) h8.lt (fun j ob1 ob2 h=>by (rcases j with _|_|_|_|_|_|j)<;>simp [G.kindOf] at h⊢ <;>omega) (fun _=>by kernel_rfl) (fun f A w ⟨e0,e1,_⟩ hh hr=>Y.puA e0 e1 hr rfl (by kernel_rfl) (by kernel_rfl))
      |5,_=>exact G.obv [(34,flt ⟨#[115,105,122,101,115]⟩ (sen a0))] rfl rfl (fun A w ⟨e0,_⟩ hB=>Y.assign e0)
      |ix+6,h=>exact absurd h (by simp)
    intro f W3 hS _ _ _ hset;have q8:Bk W3 74 b8 #[.string ⟨#[]⟩,int u64 0,int u64 0,.bool false,.string ⟨#[]⟩,int u64 0,.string ⟨#[]⟩]:=hset 4 _ _ _ rfl (by decide);have hB3:Bl w W3:=hS.under hB.drew (by intro b h;rw [List.mem_singleton.1 h];exact hl8) hB.size;clear hset hS;simp only [puts,List.foldl,Act.put,List.setIfInBounds_toArray,List.set_cons_zero,List.set_cons_succ];go_wp2;exact bodyPost_ret (v:= .tuple #[.agg #[.string ⟨#[]⟩,int u64 0,int u64 0,.bool false,.string ⟨#[]⟩,int u64 0,.string ⟨#[]⟩],flt ⟨#[115,105,122,101,115]⟩ (sen a0)]) (bk_res2 (fn:=Tryz.f47) (p:=8) (u:=9) results47 _ rfl q8 underlying74 rfl (by kernel_rfl)) rfl ⟨rfl,hB3⟩
theorem selI_el (hs:So w a0 a2)(q1:s.size=32)(q2:n.size=16)(q4:nameB u=true)(q3:elT t=false):
    Cr 47 #[.string s,.string n,.agg #[int u64 (t.1:Int),int u64 (t.2.1:Int),.bool t.2.2],.string u] w (.tuple #[.agg #[.string ⟨#[]⟩,int u64 0,int u64 0,.bool false,.string ⟨#[]⟩,int u64 0,.string ⟨#[]⟩],flt ⟨#[115,101,114,118,101,114]⟩ (sen a0)]):=by
  have h6:=Bk.new w 27 #[int u64 (t.1:Int),int u64 (t.2.1:Int),.bool t.2.2];have hB:=balc w (Obj.cells #[int u64 (t.1:Int),int u64 (t.2.1:Int),.bool t.2.2] 27);obtain⟨W1,hW1⟩:∃W,w.alloc (Obj.cells #[int u64 (t.1:Int),int u64 (t.2.1:Int),.bool t.2.2] 27)=W:=⟨_,rfl⟩;rw [hW1] at h6 hB;have h8:=Bk.new W1 74 #[.string ⟨#[]⟩,int u64 0,int u64 0,.bool false,.string ⟨#[]⟩,int u64 0,.string ⟨#[]⟩];have hlt:w.heap.size<W1.heap.size:=h6.lt;replace h6:=h6.alloc (Obj.cells #[.string ⟨#[]⟩,int u64 0,int u64 0,.bool false,.string ⟨#[]⟩,int u64 0,.string ⟨#[]⟩] 74);replace hB:=hB.alloc hB.size (Obj.cells #[.string ⟨#[]⟩,int u64 0,int u64 0,.bool false,.string ⟨#[]⟩,int u64 0,.string ⟨#[]⟩] 74);obtain⟨W2,hW2⟩:∃W,W1.alloc (Obj.cells #[.string ⟨#[]⟩,int u64 0,int u64 0,.bool false,.string ⟨#[]⟩,int u64 0,.string ⟨#[]⟩] 74)=W:=⟨_,rfl⟩;rw [hW2] at h8 h6 hB;obtain⟨b8,hb8⟩:∃b,W1.heap.size=b:=⟨_,rfl⟩;obtain⟨b6,hb6⟩:∃b,w.heap.size=b:=⟨_,rfl⟩;have hl8:w.heap.size≤b8:=by omega
  rw [hb8] at h8;rw [hb6] at h6;clear hlt;have NM:=fun w=>nmI u w
  rw [q4] at NM;have hu:1≤u.size∧u.size≤32:=of_decide_eq_true q4;have p0:W2.cell? ⟨b6,0,none⟩=some (int u64 (t.1:Int)):=h6.cell (k:=0) rfl;have p1:W2.cell? ⟨b6,1,none⟩=some (int u64 (t.2.1:Int)):=h6.cell (k:=1) rfl;have p2:W2.cell? ⟨b6,2,none⟩=some (.bool t.2.2):=h6.cell (k:=2) rfl;have EL:=fun w hs=>eleO_any t a0 a2 w hs
  rw [q3] at EL;simp only [Bool.false_eq_true,if_false,sen] at EL;go_enter func47,ntmps47;go_wp2_with fail;refine(NM _).mono ?_;rintro e w0 ⟨rfl,rfl⟩;go_wp2_with fail;refine(EL _ (hs.keep hB)).mono ?_;rintro e w0 ⟨rfl,d1⟩;replace h8:=h8.keep d1;replace hB:=hB.tr d1;clear d1 p0 p1 p2 hW1 hW2 EL NM h6;replace h8:=h8.alloc (Obj.cells #[int u64 0,int u64 0,.bool true] 101);replace hB:=hB.alloc hB.size (Obj.cells #[int u64 0,int u64 0,.bool true] 101);obtain⟨w1,hw1⟩:∃W,w0.alloc (Obj.cells #[int u64 0,int u64 0,.bool true] 101)=W:=⟨_,rfl⟩;rw [hw1] at h8 hB;have cz0:w1.cell? ⟨b8,0,none⟩=some (.string ⟨#[]⟩):=h8.cell (k:=0) rfl;have fz0:=h8.frz 0;have ez0:w1.setCell ⟨b8,0,none⟩ (.string ⟨#[]⟩)=w1:=h8.sameS 0 rfl;have cz1:w1.cell? ⟨b8,1,none⟩=some (int u64 0):=h8.cell (k:=1) rfl;have fz1:=h8.frz 1;have ez1:w1.setCell ⟨b8,1,none⟩ (int u64 0)=w1:=h8.sameS 1 rfl;have cz2:w1.cell? ⟨b8,2,none⟩=some (int u64 0):=h8.cell (k:=2) rfl;have fz2:=h8.frz 2;have ez2:w1.setCell ⟨b8,2,none⟩ (int u64 0)=w1:=h8.sameS 2 rfl;have cz3:w1.cell? ⟨b8,3,none⟩=some (.bool false):=h8.cell (k:=3) rfl;have fz3:=h8.frz 3;have ez3:w1.setCell ⟨b8,3,none⟩ (.bool false)=w1:=h8.sameS 3 rfl;have cz4:w1.cell? ⟨b8,4,none⟩=some (.string ⟨#[]⟩):=h8.cell (k:=4) rfl;have fz4:=h8.frz 4;have ez4:w1.setCell ⟨b8,4,none⟩ (.string ⟨#[]⟩)=w1:=h8.sameS 4 rfl;have cz5:w1.cell? ⟨b8,5,none⟩=some (int u64 0):=h8.cell (k:=5) rfl;have fz5:=h8.frz 5;have ez5:w1.setCell ⟨b8,5,none⟩ (int u64 0)=w1:=h8.sameS 5 rfl;have cz6:w1.cell? ⟨b8,6,none⟩=some (.string ⟨#[]⟩):=h8.cell (k:=6) rfl;have fz6:=h8.frz 6;have ez6:w1.setCell ⟨b8,6,none⟩ (.string ⟨#[]⟩)=w1:=h8.sameS 6 rfl;go_wp2
  all_goals
    exact bodyPost_ret (v:= .tuple #[.agg #[.string ⟨#[]⟩,int u64 0,int u64 0,.bool false,.string ⟨#[]⟩,int u64 0,.string ⟨#[]⟩],.iface 150 (.agg #[.string ⟨#[115,101,114,118,101,114]⟩,.iface 336 (.pointer (some a0))])]) (bk_res2 (fn:=Tryz.f47) (p:=8) (u:=9) results47 _ rfl h8 underlying74 rfl (by kernel_rfl)) rfl ⟨rfl,hB⟩
theorem selI_key (hs:So w a0 a2)(q1:s.size=32)(q2:n.size=16)(q4:nameB u=true)(hT:TabK w)(q3:elT t=true)(hk:decide ((prK s n).2=0)=false):
    Cr 47 #[.string s,.string n,.agg #[int u64 (t.1:Int),int u64 (t.2.1:Int),.bool t.2.2],.string u] w (.tuple #[.agg #[.string ⟨#[]⟩,int u64 0,int u64 0,.bool false,.string ⟨#[]⟩,int u64 0,.string ⟨#[]⟩],flt ⟨#[112,114,105,118,97,116,101,32,107,101,121]⟩ (flt ⟨#[107,101,121]⟩ (sen a2))]):=by
  have h6:=Bk.new w 27 #[int u64 (t.1:Int),int u64 (t.2.1:Int),.bool t.2.2];have hB:=balc w (Obj.cells #[int u64 (t.1:Int),int u64 (t.2.1:Int),.bool t.2.2] 27);obtain⟨W1,hW1⟩:∃W,w.alloc (Obj.cells #[int u64 (t.1:Int),int u64 (t.2.1:Int),.bool t.2.2] 27)=W:=⟨_,rfl⟩;rw [hW1] at h6 hB;have h8:=Bk.new W1 74 #[.string ⟨#[]⟩,int u64 0,int u64 0,.bool false,.string ⟨#[]⟩,int u64 0,.string ⟨#[]⟩];have hlt:w.heap.size<W1.heap.size:=h6.lt;replace h6:=h6.alloc (Obj.cells #[.string ⟨#[]⟩,int u64 0,int u64 0,.bool false,.string ⟨#[]⟩,int u64 0,.string ⟨#[]⟩] 74);replace hB:=hB.alloc hB.size (Obj.cells #[.string ⟨#[]⟩,int u64 0,int u64 0,.bool false,.string ⟨#[]⟩,int u64 0,.string ⟨#[]⟩] 74);obtain⟨W2,hW2⟩:∃W,W1.alloc (Obj.cells #[.string ⟨#[]⟩,int u64 0,int u64 0,.bool false,.string ⟨#[]⟩,int u64 0,.string ⟨#[]⟩] 74)=W:=⟨_,rfl⟩;rw [hW2] at h8 h6 hB;obtain⟨b8,hb8⟩:∃b,W1.heap.size=b:=⟨_,rfl⟩;obtain⟨b6,hb6⟩:∃b,w.heap.size=b:=⟨_,rfl⟩;have hl8:w.heap.size≤b8:=by omega
  rw [hb8] at h8;rw [hb6] at h6;clear hlt;have NM:=fun w=>nmI u w
  rw [q4] at NM;have hu:1≤u.size∧u.size≤32:=of_decide_eq_true q4;have p0:W2.cell? ⟨b6,0,none⟩=some (int u64 (t.1:Int)):=h6.cell (k:=0) rfl;have p1:W2.cell? ⟨b6,1,none⟩=some (int u64 (t.2.1:Int)):=h6.cell (k:=1) rfl;have p2:W2.cell? ⟨b6,2,none⟩=some (.bool t.2.2):=h6.cell (k:=2) rfl;have EL:=fun w hs=>eleO_any t a0 a2 w hs
  rw [q3] at EL;simp only [if_true] at EL;have XS:∀w,TabK w→Cr 63 #[.string ⟨#[]⟩,.string s] w (.string (slX s)):=fun w hT=>extractI_any _ _ w hT (by decide) (by omega)
  have hxz:=slX_size s;have P1:∀w,TabK w→Cr 66 #[.string (slX s),.string (n++⟨#[80,114,105,118,97,116,101]⟩)] w (.string (prB s n wPrv)):=fun w hT=>expa (slX s) (n++wPrv) w hT (by omega) (by rw [ByteArray.size_append,q2];decide)
  have DK:∀w,TabK w→So w a0 a2→Cr 57 #[.int .i64 0,.string (prB s n wPrv),.string ⟨#[67,108,105,101,110,116]⟩] w (.tuple #[int u64 ((prK s n).1:Nat),if (prK s n).2=0 then .nilIface else flt ⟨#[107,101,121]⟩ (sen a2)]):=fun w hT hs=>by
    rw [prK_eq];exact drvI 0 (prB s n wPrv) wCli a0 a2 w hT hs ⟨by decide,by decide⟩ (prB_size _ _ _) (by decide)
  have hc1: ¬ (9223372036854775807<n.size+(⟨#[80,114,105,118,97,116,101]⟩:ByteArray).size):=by rw [q2];decide
  have hk0: ¬ (prK s n).2=0:=by simpa using hk
  simp only [hk0,if_false,flt,sen] at DK;clear hk hk0;generalize ((prK s n).1:Nat)=k at*;generalize px (asT t)=ex at*;generalize py (asT t)=ey at*;generalize pb (asT t)=eb at*;generalize prB s n wPrv=PR at*;generalize slX s=X0 at*;go_enter func47,ntmps47;go_wp2_with fail;refine(NM _).mono ?_;rintro e w0 ⟨rfl,rfl⟩;go_wp2_with fail;refine(EL _ (hs.keep hB)).mono ?_;rintro e w0 ⟨rfl,d1⟩;replace h8:=h8.keep d1;replace h6:=h6.keep d1;replace hB:=hB.tr d1;clear d1 p0 p1 p2 hW1 hW2 EL NM;replace h8:=h8.alloc (Obj.cells #[int u64 ex,int u64 ey,.bool eb] 101);replace h6:=h6.alloc (Obj.cells #[int u64 ex,int u64 ey,.bool eb] 101);replace hB:=hB.alloc hB.size (Obj.cells #[int u64 ex,int u64 ey,.bool eb] 101);obtain⟨w1,hw1⟩:∃W,w0.alloc (Obj.cells #[int u64 ex,int u64 ey,.bool eb] 101)=W:=⟨_,rfl⟩;rw [hw1] at h8 h6 hB;go_wp2_with fail;refine(XS _ (hT.kept hB)).mono ?_;rintro e w2 ⟨rfl,d1⟩;replace h8:=h8.keep d1;replace hB:=hB.tr d1;replace h6:=h6.keep d1;clear d1;clear hw1;go_wp2_with fail;refine(P1 _ (hT.kept hB)).mono ?_;rintro e w2b ⟨rfl,d1⟩;replace h8:=h8.keep d1;replace hB:=hB.tr d1;replace h6:=h6.keep d1;clear d1;go_wp2_with fail;refine(DK _ (hT.kept hB) (hs.keep hB)).mono ?_;rintro e w3 ⟨rfl,d1⟩;replace h8:=h8.keep d1;replace hB:=hB.tr d1;replace h6:=h6.keep d1;clear d1;clear XS P1 DK;have cz0:w3.cell? ⟨b8,0,none⟩=some (.string ⟨#[]⟩):=h8.cell (k:=0) rfl;have fz0:=h8.frz 0;have ez0:w3.setCell ⟨b8,0,none⟩ (.string ⟨#[]⟩)=w3:=h8.sameS 0 rfl;have cz1:w3.cell? ⟨b8,1,none⟩=some (int u64 0):=h8.cell (k:=1) rfl;have fz1:=h8.frz 1;have ez1:w3.setCell ⟨b8,1,none⟩ (int u64 0)=w3:=h8.sameS 1 rfl;have cz2:w3.cell? ⟨b8,2,none⟩=some (int u64 0):=h8.cell (k:=2) rfl;have fz2:=h8.frz 2;have ez2:w3.setCell ⟨b8,2,none⟩ (int u64 0)=w3:=h8.sameS 2 rfl;have cz3:w3.cell? ⟨b8,3,none⟩=some (.bool false):=h8.cell (k:=3) rfl;have fz3:=h8.frz 3;have ez3:w3.setCell ⟨b8,3,none⟩ (.bool false)=w3:=h8.sameS 3 rfl;have cz4:w3.cell? ⟨b8,4,none⟩=some (.string ⟨#[]⟩):=h8.cell (k:=4) rfl;have fz4:=h8.frz 4;have ez4:w3.setCell ⟨b8,4,none⟩ (.string ⟨#[]⟩)=w3:=h8.sameS 4 rfl;have cz5:w3.cell? ⟨b8,5,none⟩=some (int u64 0):=h8.cell (k:=5) rfl;have fz5:=h8.frz 5;have ez5:w3.setCell ⟨b8,5,none⟩ (int u64 0)=w3:=h8.sameS 5 rfl;have cz6:w3.cell? ⟨b8,6,none⟩=some (.string ⟨#[]⟩):=h8.cell (k:=6) rfl;have fz6:=h8.frz 6;have ez6:w3.setCell ⟨b8,6,none⟩ (.string ⟨#[]⟩)=w3:=h8.sameS 6 rfl;go_wp2
  all_goals
    exact bodyPost_ret (v:= .tuple #[.agg #[.string ⟨#[]⟩,int u64 0,int u64 0,.bool false,.string ⟨#[]⟩,int u64 0,.string ⟨#[]⟩],.iface 150 (.agg #[.string ⟨#[112,114,105,118,97,116,101,32,107,101,121]⟩,.iface 150 (.agg #[.string ⟨#[107,101,121]⟩,.iface 336 (.pointer (some a2))])])]) (bk_res2 (fn:=Tryz.f47) (p:=8) (u:=9) results47 _ rfl h8 underlying74 rfl (by kernel_rfl)) rfl ⟨rfl,hB⟩
theorem selI_yes (hs:So w a0 a2)(q1:s.size=32)(q2:n.size=16)(q4:nameB u=true)(hT:TabK w)(q3:elT t=true)(hk:decide ((prK s n).2=0)=true):
    Cr 47 #[.string s,.string n,.agg #[int u64 (t.1:Int),int u64 (t.2.1:Int),.bool t.2.2],.string u] w (.tuple #[.agg #[.string u,int u64 (px (slP s n)),int u64 (py (slP s n)),.bool (pb (slP s n)),.string (n++slM s n t u),int u64 ((prK s n).1:Nat),.string (prB s n wExp)],.nilIface]):=by
  have h6:=Bk.new w 27 #[int u64 (t.1:Int),int u64 (t.2.1:Int),.bool t.2.2];have hB:=balc w (Obj.cells #[int u64 (t.1:Int),int u64 (t.2.1:Int),.bool t.2.2] 27);obtain⟨W1,hW1⟩:∃W,w.alloc (Obj.cells #[int u64 (t.1:Int),int u64 (t.2.1:Int),.bool t.2.2] 27)=W:=⟨_,rfl⟩;rw [hW1] at h6 hB;have h8:=Bk.new W1 74 #[.string ⟨#[]⟩,int u64 0,int u64 0,.bool false,.string ⟨#[]⟩,int u64 0,.string ⟨#[]⟩];have hlt:w.heap.size<W1.heap.size:=h6.lt;replace h6:=h6.alloc (Obj.cells #[.string ⟨#[]⟩,int u64 0,int u64 0,.bool false,.string ⟨#[]⟩,int u64 0,.string ⟨#[]⟩] 74);replace hB:=hB.alloc hB.size (Obj.cells #[.string ⟨#[]⟩,int u64 0,int u64 0,.bool false,.string ⟨#[]⟩,int u64 0,.string ⟨#[]⟩] 74);obtain⟨W2,hW2⟩:∃W,W1.alloc (Obj.cells #[.string ⟨#[]⟩,int u64 0,int u64 0,.bool false,.string ⟨#[]⟩,int u64 0,.string ⟨#[]⟩] 74)=W:=⟨_,rfl⟩;rw [hW2] at h8 h6 hB;obtain⟨b8,hb8⟩:∃b,W1.heap.size=b:=⟨_,rfl⟩;obtain⟨b6,hb6⟩:∃b,w.heap.size=b:=⟨_,rfl⟩;have hl8:w.heap.size≤b8:=by omega
  rw [hb8] at h8;rw [hb6] at h6;clear hlt;have NM:=fun w=>nmI u w
  rw [q4] at NM;have hu:1≤u.size∧u.size≤32:=of_decide_eq_true q4;have p0:W2.cell? ⟨b6,0,none⟩=some (int u64 (t.1:Int)):=h6.cell (k:=0) rfl;have p1:W2.cell? ⟨b6,1,none⟩=some (int u64 (t.2.1:Int)):=h6.cell (k:=1) rfl;have p2:W2.cell? ⟨b6,2,none⟩=some (.bool t.2.2):=h6.cell (k:=2) rfl;have EL:=fun w hs=>eleO_any t a0 a2 w hs
  rw [q3] at EL;simp only [if_true] at EL;have XS:∀w,TabK w→Cr 63 #[.string ⟨#[]⟩,.string s] w (.string (slX s)):=fun w hT=>extractI_any _ _ w hT (by decide) (by omega)
  have hxz:=slX_size s;have P1:∀w,TabK w→Cr 66 #[.string (slX s),.string (n++⟨#[80,114,105,118,97,116,101]⟩)] w (.string (prB s n wPrv)):=fun w hT=>expa (slX s) (n++wPrv) w hT (by omega) (by rw [ByteArray.size_append,q2];decide)
  have DK:∀w,TabK w→So w a0 a2→Cr 57 #[.int .i64 0,.string (prB s n wPrv),.string ⟨#[67,108,105,101,110,116]⟩] w (.tuple #[int u64 ((prK s n).1:Nat),if (prK s n).2=0 then .nilIface else flt ⟨#[107,101,121]⟩ (sen a2)]):=fun w hT hs=>by
    rw [prK_eq];exact drvI 0 (prB s n wPrv) wCli a0 a2 w hT hs ⟨by decide,by decide⟩ (prB_size _ _ _) (by decide)
  have hc1: ¬ (9223372036854775807<n.size+(⟨#[80,114,105,118,97,116,101]⟩:ByteArray).size):=by rw [q2];decide
  have hk0:(prK s n).2=0:=of_decide_eq_true hk;simp only [hk0,if_true] at DK;clear hk hk0;have PP:∀w,Cr 64 #[.agg #[int u64 (t.1:Int),int u64 (t.2.1:Int),.bool t.2.2]] w (.string (pB (asT t))):=fun w=>putI_pt t.1 t.2.1 t.2.2 w
  have WT:∀(i:Nat) (w:World),Bk w 243 i #[.iface 155 (.string (pB (asT t))),.iface 156 (.string u)]→Cr 105 #[.string n,.slice (some ⟨i,0,none⟩) 2 2] w (.string (n++pB (asT t)++sizB u)):=fun i w hr=>wth2 n (pB (asT t)) u i w (by omega) (by rw [pB_size];decide) (by omega) hr
  have P2:∀w,TabK w→Cr 66 #[.string (slX s),.string (n++⟨#[65,117,116,104]⟩)] w (.string (prB s n wAut)):=fun w hT=>expa (slX s) (n++wAut) w hT (by omega) (by rw [ByteArray.size_append,q2];decide)
  have HM:∀w,TabK w→Cr 106 #[.string (prB s n wAut),.string (n++pB (asT t)++sizB u)] w (.string (slM s n t u)):=fun w hT=>hmacI_any _ _ w hT (by rw [prB_size];decide) (by rw [ByteArray.size_append,ByteArray.size_append,pB_size,sizB_size];omega)
  have PX:∀w,TabK w→Cr 66 #[.string (slX s),.string (n++⟨#[69,120,112,111,114,116]⟩)] w (.string (prB s n wExp)):=fun w hT=>expa (slX s) (n++wExp) w hT (by omega) (by rw [ByteArray.size_append,q2];decide)
  have BS:∀w,Cr 21 #[] w (.agg #[int u64 ((1:Nat):Int),int u64 ((509478702933351334:Nat):Int),.bool false]):=fun w=>bsI w
  have TM:=fun w=>timI_pt (prK s n).1 1 509478702933351334 false w (prK_lt s n)
  rw [asG] at TM;rw [show nt (prK s n).1 gG=slP s n from rfl,ptW_eq] at TM;have hzM:=slM_size s n t u;have hc2: ¬ (9223372036854775807<n.size+(⟨#[65,117,116,104]⟩:ByteArray).size):=by rw [q2];decide
  have hce:n.size+(⟨#[69,120,112,111,114,116]⟩:ByteArray).size≤9223372036854775807:=by rw [q2];decide
  have hc3: ¬ (9223372036854775807<n.size+(slM s n t u).size):=by omega
  generalize n++pB (asT t)++sizB u=TX at*;generalize pB (asT t)=PB at*;generalize px (slP s n)=xx at*;generalize py (slP s n)=yy at*;generalize pb (slP s n)=zz at*;generalize prB s n wExp=EX at*;generalize prB s n wAut=AU at*;generalize slM s n t u=MM at*;generalize ((prK s n).1:Nat)=k at*;generalize px (asT t)=ex at*;generalize py (asT t)=ey at*;generalize pb (asT t)=eb at*;generalize prB s n wPrv=PR at*;generalize slX s=X0 at*;go_enter func47,ntmps47;go_wp2_with fail;refine(NM _).mono ?_;rintro e w0 ⟨rfl,rfl⟩;go_wp2_with fail;refine(EL _ (hs.keep hB)).mono ?_;rintro e w0 ⟨rfl,d1⟩;replace h8:=h8.keep d1;replace h6:=h6.keep d1;replace hB:=hB.tr d1;clear d1 p0 p1 p2 hW1 hW2 EL NM;replace h8:=h8.alloc (Obj.cells #[int u64 ex,int u64 ey,.bool eb] 101);replace h6:=h6.alloc (Obj.cells #[int u64 ex,int u64 ey,.bool eb] 101);replace hB:=hB.alloc hB.size (Obj.cells #[int u64 ex,int u64 ey,.bool eb] 101);obtain⟨w1,hw1⟩:∃W,w0.alloc (Obj.cells #[int u64 ex,int u64 ey,.bool eb] 101)=W:=⟨_,rfl⟩;rw [hw1] at h8 h6 hB;go_wp2_with fail;refine(XS _ (hT.kept hB)).mono ?_;rintro e w2 ⟨rfl,d1⟩;replace h8:=h8.keep d1;replace hB:=hB.tr d1;replace h6:=h6.keep d1;clear d1;clear hw1;go_wp2_with fail;refine(P1 _ (hT.kept hB)).mono ?_;rintro e w2b ⟨rfl,d1⟩;replace h8:=h8.keep d1;replace hB:=hB.tr d1;replace h6:=h6.keep d1;clear d1;go_wp2_with fail;refine(DK _ (hT.kept hB) (hs.keep hB)).mono ?_;rintro e w3 ⟨rfl,d1⟩;replace h8:=h8.keep d1;replace hB:=hB.tr d1;replace h6:=h6.keep d1;clear d1;clear XS P1 DK;have p0:w3.cell? ⟨b6,0,none⟩=some (int u64 (t.1:Int)):=h6.cell (k:=0) rfl;have p1:w3.cell? ⟨b6,1,none⟩=some (int u64 (t.2.1:Int)):=h6.cell (k:=1) rfl;have p2:w3.cell? ⟨b6,2,none⟩=some (.bool t.2.2):=h6.cell (k:=2) rfl;go_wp2_with fail;refine(PP _).mono ?_;rintro e w4 ⟨rfl,d1⟩;replace h8:=h8.keep d1;replace hB:=hB.tr d1;clear d1;clear PP p0 p1 p2 h6;have hg:=Bk.new w4 243 #[.iface 155 (.string PB),.iface 156 (.string u)];replace h8:=h8.alloc (Obj.cells #[.iface 155 (.string PB),.iface 156 (.string u)] 243);replace hB:=hB.alloc hB.size (Obj.cells #[.iface 155 (.string PB),.iface 156 (.string u)] 243);obtain⟨w5,hw5⟩:∃W,w4.alloc (Obj.cells #[.iface 155 (.string PB),.iface 156 (.string u)] 243)=W:=⟨_,rfl⟩;rw [hw5] at h8 hB hg;go_wp2_with fail;refine(WT _ _ hg).mono ?_;rintro e w6 ⟨rfl,d1⟩;replace h8:=h8.keep d1;replace hB:=hB.tr d1;clear d1;clear hw5 hg WT;go_wp2_with fail;refine(P2 _ (hT.kept hB)).mono ?_;rintro e w7 ⟨rfl,d1⟩;replace h8:=h8.keep d1;replace hB:=hB.tr d1;clear d1;go_wp2_with fail;refine(HM _ (hT.kept hB)).mono ?_;rintro e w8 ⟨rfl,d1⟩;replace h8:=h8.keep d1;replace hB:=hB.tr d1;clear d1;go_wp2_with fail;refine(BS _).mono ?_;rintro e w8b ⟨rfl,d1⟩;replace h8:=h8.keep d1;replace hB:=hB.tr d1;clear d1;go_wp2_with fail;refine(TM _).mono ?_;rintro e w8c ⟨rfl,d1⟩;replace h8:=h8.keep d1;replace hB:=hB.tr d1;clear d1;clear P2 HM BS TM;have h17:=Bk.new w8c 31 #[.string u,int u64 xx,int u64 yy,.bool zz,.string (n++MM)];have n17':b8<w8c.heap.size:=h8.lt;replace h8:=h8.alloc (Obj.cells #[.string u,int u64 xx,int u64 yy,.bool zz,.string (n++MM)] 31);replace hB:=hB.alloc hB.size (Obj.cells #[.string u,int u64 xx,int u64 yy,.bool zz,.string (n++MM)] 31);obtain⟨w9,hw9⟩:∃W,w8c.alloc (Obj.cells #[.string u,int u64 xx,int u64 yy,.bool zz,.string (n++MM)] 31)=W:=⟨_,rfl⟩;rw [hw9] at h17 h8 hB;obtain⟨b17,hb17⟩:∃b,w8c.heap.size=b:=⟨_,rfl⟩;rw [hb17] at h17;have n17:b17∉ [b8]:=fun h=>by have:=List.mem_singleton.1 h;omega
  have hTB:∀w',G.Sides [b8] w9.drew w'→TabK w':=fun w' hB' i hi=>hB'.cell ((hT.kept hB) i hi) (fun h=>by
    have:=World.block_lt_of_cell? w _ (hT i hi);have:=List.mem_singleton.1 h;simp only at*
    omega)
  go_wp2;clear hw9 hb17 n17' hc1 hc2 hc3
  refine G.pool_list (W:=w9) [b8] [.val (.agg #[.string u,int u64 xx,int u64 yy,.bool zz,.string (n++MM)]),
      .val (int u64 (k:Int)),
      .val (.string X0),
      .val (.string n),
      .val (.string (n++⟨#[69,120,112,111,114,116]⟩)),
      .val (.string EX),
      .val (.agg #[.string u,int u64 xx,int u64 yy,.bool zz,.string (n++MM),int u64 (k:Int),.string EX]),
      .set (b8) (.cells #[.string ⟨#[]⟩,int u64 0,int u64 0,.bool false,.string ⟨#[]⟩,int u64 0,.string ⟨#[]⟩] 74) (.cells #[.string u,int u64 xx,int u64 yy,.bool zz,.string (n++MM),int u64 (k:Int),.string EX] 74),
      .val (.nilIface)] [[17],[13],[12],[1],[87],[86,88],[84,85,89],[8,90],[]] (fun f=> [(some 84,.agg #[.string u,int u64 xx,int u64 yy,.bool zz,.string (n++MM)]),(some 85,int u64 (k:Int)),(some 86,.string X0),(some 87,.string n),(some 88,.string (n++⟨#[69,120,112,111,114,116]⟩)),(some 89,.string EX),(some 90,.agg #[.string u,int u64 xx,int u64 yy,.bool zz,.string (n++MM),int u64 (k:Int),.string EX]),(none,undef),(some 9,.nilIface)]) (by kernel_rfl) (by kernel_rfl) (by kernel_rfl) (by kernel_rfl) (fun _=>by kernel_rfl) (G.last_of [.cells #[.string ⟨#[]⟩,int u64 0,int u64 0,.bool false,.string ⟨#[]⟩,int u64 0,.string ⟨#[]⟩] 74] (fun F R hm=>by simp at hm) (fun ob ob' k hm=>by simp at hm) (fun b ob ob' hm=>by simp at hm;simp [hm])) (fun b ob ob' hm=>by simp at hm;obtain⟨rfl,rfl,-⟩:=hm;exact h8) ?_ ?_
  · intro ix hix
    match ix,hix with
    |0,_=>exact G.obv [(17,.pointer (some ⟨b17,0,none⟩))] rfl rfl (fun A w ⟨e0,_⟩ hB=>Y.ldT underlying31 rfl (by kernel_rfl) e0 (Y.sideS hB h17 n17))
    |1,_=>exact G.obv [(13,int u64 (k:Int))] rfl rfl (fun A w ⟨e0,_⟩ hB=>Y.move e0)
    |2,_=>exact G.obv [(12,.string X0)] rfl rfl (fun A w ⟨e0,_⟩ hB=>Y.move e0)
    |3,_=>exact G.obv [(1,.string n)] rfl rfl (fun A w ⟨e0,_⟩ hB=>Y.move e0)
    |4,_=>exact G.obv [(87,.string n)] rfl rfl (fun A w ⟨e0,_⟩ hB=>Y.cat e0 rfl hce)
    |5,_=>exact G.obv [(86,.string X0),(88,.string (n++⟨#[69,120,112,111,114,116]⟩))] rfl rfl (fun A w ⟨e0,e1,_⟩ hB=>Y.cl2 cfxE e0 e1 (by have h:=PX w (hTB w hB);exact h))
    |6,_=>exact G.obv [(84,.agg #[.string u,int u64 xx,int u64 yy,.bool zz,.string (n++MM)]),(85,int u64 (k:Int)),(89,.string EX)] rfl rfl (fun A w ⟨e0,e1,e2,_⟩ hB=>buS e0 e1 e2)
    |7,_=>exact G.ob_set (fun f=> [(8,.pointer (some ⟨b8,0,none⟩)),(90,.agg #[.string u,int u64 xx,int u64 yy,.bool zz,.string (n++MM),int u64 (k:Int),.string EX])]) rfl rfl rfl (by simp) h8.lt (fun j ob1 ob2 h=>by (rcases j with _|_|_|_|_|_|_|_|_|j)<;>simp [G.kindOf] at h⊢ <;>omega) (fun _=>by kernel_rfl) (fun f A w ⟨e0,e1,_⟩ hh hr=>Y.puA e0 e1 hr rfl (by kernel_rfl) (by simp [Value.oneCell']))
    |8,_=>exact G.obv [] rfl rfl (fun A w _ hB=>Y.assign rfl)
    |ix+9,h=>exact absurd h (by simp)
  intro f W3 hS _ _ _ hset;have q8:Bk W3 74 b8 #[.string u,int u64 xx,int u64 yy,.bool zz,.string (n++MM),int u64 (k:Int),.string EX]:=hset 7 _ _ _ rfl (by decide);have hB3:Bl w W3:=hS.under hB.drew (by intro b h;rw [List.mem_singleton.1 h];exact hl8) hB.size;clear hset hS;simp only [puts,List.foldl,Act.put,List.setIfInBounds_toArray,List.set_cons_zero,List.set_cons_succ];go_wp2;exact bodyPost_ret (v:= .tuple #[.agg #[.string u,int u64 xx,int u64 yy,.bool zz,.string (n++MM),int u64 (k:Int),.string EX],.nilIface]) (bk_res2 (fn:=Tryz.f47) (p:=8) (u:=9) results47 _ rfl q8 underlying74 rfl (by kernel_rfl)) rfl ⟨rfl,hB3⟩
end
noncomputable def slE (a0 a2:Addr) (s n:ByteArray) (t:Tri) (u:ByteArray):Value:=
  if (decide (s.size=32)&&decide (n.size=16)&&nameB u)=false then flt ⟨#[115,105,122,101,115]⟩ (sen a0) else if elT t=false then flt ⟨#[115,101,114,118,101,114]⟩ (sen a0) else if decide ((prK s n).2=0)=false then flt ⟨#[112,114,105,118,97,116,101,32,107,101,121]⟩ (flt ⟨#[107,101,121]⟩ (sen a2)) else .nilIface
noncomputable def sdL (s n:ByteArray) (t:Tri) (u:ByteArray):List Value:=if slO s n t u then [.string u,int u64 (px (slP s n)),int u64 (py (slP s n)),.bool (pb (slP s n)),.string (n++slM s n t u),int u64 ((prK s n).1:Nat),.string (prB s n wExp)] else (#[.string ⟨#[]⟩,int u64 0,int u64 0,.bool false,.string ⟨#[]⟩,int u64 0,.string ⟨#[]⟩]:Array Value).toList
theorem slI (s n:ByteArray)(t:Tri)(u:ByteArray)(a0 a2:Addr)(w:World)(hT:TabK w)(hs:So w a0 a2):
    Cr 47 #[.string s,.string n,.agg #[int u64 (t.1:Int),int u64 (t.2.1:Int),.bool t.2.2],.string u] w (.tuple #[.agg (sdL s n t u).toArray,slE a0 a2 s n t u]):=by
  cases h1:(decide (s.size=32)&&decide (n.size=16)&&nameB u) with
  | false=>
    have e:slO s n t u=false:=by
      unfold slO slC
      revert h1
      cases decide (s.size=32)<;>cases decide (n.size=16)<;>cases nameB u<;>cases elT t<;>simp
    have g:sdL s n t u=(#[.string ⟨#[]⟩,int u64 0,int u64 0,.bool false,.string ⟨#[]⟩,int u64 0,.string ⟨#[]⟩]:Array Value).toList:=by unfold sdL;rw [e];rfl
    have g2:slE a0 a2 s n t u=flt ⟨#[115,105,122,101,115]⟩ (sen a0):=by unfold slE;rw [h1];rfl
    rw [g,g2];exact selI_bad s n t u a0 a2 w hs h1
  | true=>
    have h1':=h1;simp only [Bool.and_eq_true,decide_eq_true_eq] at h1;obtain⟨⟨q1,q2⟩,q4⟩:=h1
    cases q3:elT t with
    | false=>
      have e:slO s n t u=false:=by unfold slO slC;rw [q3];simp
      have g:sdL s n t u=(#[.string ⟨#[]⟩,int u64 0,int u64 0,.bool false,.string ⟨#[]⟩,int u64 0,.string ⟨#[]⟩]:Array Value).toList:=by unfold sdL;rw [e];rfl
      have g2:slE a0 a2 s n t u=flt ⟨#[115,101,114,118,101,114]⟩ (sen a0):=by unfold slE;rw [h1',q3];rfl
      rw [g,g2];exact selI_el s n t u a0 a2 w hs q1 q2 q4 q3
    | true=>
      cases hk:decide ((prK s n).2=0) with
      | false=>
        have e:slO s n t u=false:=by unfold slO;rw [hk];simp
        have g:sdL s n t u=(#[.string ⟨#[]⟩,int u64 0,int u64 0,.bool false,.string ⟨#[]⟩,int u64 0,.string ⟨#[]⟩]:Array Value).toList:=by unfold sdL;rw [e];rfl
        have g2:slE a0 a2 s n t u=flt ⟨#[112,114,105,118,97,116,101,32,107,101,121]⟩ (flt ⟨#[107,101,121]⟩ (sen a2)):=by unfold slE;rw [h1',q3,hk];rfl
        rw [g,g2];exact selI_key s n t u a0 a2 w hs q1 q2 q4 hT q3 hk
      | true=>
        have e:slO s n t u=true:=by unfold slO slC;rw [hk,q3,q4,decide_eq_true q1,decide_eq_true q2];rfl
        have g:sdL s n t u= [.string u,int u64 (px (slP s n)),int u64 (py (slP s n)),.bool (pb (slP s n)),.string (n++slM s n t u),int u64 ((prK s n).1:Nat),.string (prB s n wExp)]:=by unfold sdL;rw [e];rfl
        have g2:slE a0 a2 s n t u= .nilIface:=by unfold slE;rw [h1',q3,hk];rfl
        rw [g,g2];exact selI_yes s n t u a0 a2 w hs q1 q2 q4 hT q3 hk
theorem slE_yes {a0 a2:Addr}{s n:ByteArray}{t:Tri}{u:ByteArray}(h:slO s n t u=true):slE a0 a2 s n t u= .nilIface:=by
  unfold slO slC at h;simp only [Bool.and_eq_true] at h;obtain⟨⟨⟨⟨h1,h2⟩,h3⟩,h4⟩,h5⟩:=h;unfold slE;rw [h1,h2,h3,h4,h5];rfl
theorem slE_no {a0 a2:Addr}{s n:ByteArray}{t:Tri}{u:ByteArray}(h:slO s n t u=false):∃T x,slE a0 a2 s n t u= .iface T x:=by
  unfold slE;split
  · exact⟨_,_,rfl⟩
  · next h1=>
    split
    · exact⟨_,_,rfl⟩
    · next h2=>
      split
      · exact⟨_,_,rfl⟩
      · next h3=>
        exfalso;rw [Bool.not_eq_false] at h1 h2 h3;simp only [Bool.and_eq_true] at h1;unfold slO slC at h;rw [h1.1.1,h1.1.2,h1.2,h2,h3] at h;cases h
theorem cfSl (args:Array Value)(w:World):(callFunc 47 args).run prog w= .ok (.enter 47 args) w:=by kernel_rfl
section
variable {A:Act}{w:World}{dst:Option Tmp}{ty:TypeId}{ps:String}{af:Array Edge}{gd:Option (Nat×Bool)}{x y z:Operand}{b i:Nat}
theorem fa_s0 (hx:A.eval x= .pointer (some ⟨b,i,none⟩)):Does prog (Opr dst (.fieldAddr 74 x 0) ty ps af gd) A w fun v' w'=>v'= .pointer (some ⟨b,i+0,none⟩)∧Bl w w':=dv (by generalize A.eval=ev at*;simp [execOp,hx,go_sem])
theorem fa_s1 (hx:A.eval x= .pointer (some ⟨b,i,none⟩)):Does prog (Opr dst (.fieldAddr 74 x 1) ty ps af gd) A w fun v' w'=>v'= .pointer (some ⟨b,i+5,none⟩)∧Bl w w':=dv (by generalize A.eval=ev at*;simp [execOp,hx,go_sem])
theorem fa_s2 (hx:A.eval x= .pointer (some ⟨b,i,none⟩)):Does prog (Opr dst (.fieldAddr 74 x 2) ty ps af gd) A w fun v' w'=>v'= .pointer (some ⟨b,i+6,none⟩)∧Bl w w':=dv (by generalize A.eval=ev at*;simp [execOp,hx,go_sem])
theorem ldW {v0:Value}(hx:A.eval x= .pointer (some ⟨b,i,none⟩))(h0:w.cell? ⟨b,i,none⟩=some v0):Does prog (Opr dst (.load 22 x) ty ps af gd) A w fun v' w'=>v'=v0∧Bl w w':=dv (by generalize A.eval=ev at*;simp [execOp,hx,h0,go_sem])
theorem ldR {v0 v1 v2 v3 v4:Value}(hx:A.eval x= .pointer (some ⟨b,0+0,none⟩))(h0:w.cell? ⟨b,0+0,none⟩=some v0)(h1:w.cell? ⟨b,0+1,none⟩=some v1)(h2:w.cell? ⟨b,0+2,none⟩=some v2)(h3:w.cell? ⟨b,0+3,none⟩=some v3)(h4:w.cell? ⟨b,0+4,none⟩=some v4):
    Does prog (Opr dst (.load 31 x) ty ps af gd) A w fun v' w'=>v'= .agg #[v0,v1,v2,v3,v4]∧Bl w w':=by
  simp only [Nat.zero_add] at hx h0 h1 h2 h3 h4;have h:(execOp A.eval (Opr dst (.load 31 x) ty ps af gd)).run prog w= .ok (.value (.agg #[v0,v1,v2,v3,v4])) w:=by generalize A.eval=ev at*;simp [execOp,hx,h0,h1,h2,h3,h4,go_sem]
  exact does_value h ⟨rfl,Below.refl _ _⟩
theorem eqN {er:Value}{ok:Bool}(hx:A.eval x=er)(hv:if ok then er= .nilIface else∃T x,er= .iface T x):Does prog (Opr dst (.binOp .eql 76 x (.const .nilIface) 76) ty ps af gd) A w fun v' w'=>v'= .bool ok∧Bl w w':=by
  have hc:A.eval (.const .nilIface)= .nilIface:=rfl
  have h:(execOp A.eval (Opr dst (.binOp .eql 76 x (.const .nilIface) 76) ty ps af gd)).run prog w= .ok (.value (.bool ok)) w:=by
    generalize A.eval=ev at*
    cases ok with
    | true=>
      rw [if_pos rfl] at hv;subst hv;simp [execOp,hx,hc,go_sem]
    | false=>
      rw [if_neg (by decide)] at hv;obtain⟨T,x',rfl⟩:=hv;simp [execOp,hx,hc,go_sem]
  exact does_value h ⟨rfl,Below.refl _ _⟩
theorem slH {bx:ByteArray}(hx:A.eval x= .string bx)(h:16≤bx.size):Does prog (Opr dst (.slice 9 x none (some (.const (.int .i64 16))) none) ty ps af gd) A w fun v' w'=>v'= .string (bx.extract 0 16)∧Bl w w':=by
  have hc:A.eval (.const (.int .i64 16))= .int .i64 16:=rfl;have h1:(16:Int)≤(bx.size:Int):=by omega
  have h:(execOp A.eval (Opr dst (.slice 9 x none (some (.const (.int .i64 16))) none) ty ps af gd)).run prog w= .ok (.value (.string (bx.extract 0 16))) w:=by generalize A.eval=ev at*;simp [execOp,hx,hc,Instr.slice,Instr.sliceBounds,Instr.sliceBound,h1,go_sem]
  exact does_value h ⟨rfl,Below.refl _ _⟩
theorem alS:Does prog (Opr dst (.alloc 74) ty ps af gd) A w fun v w'=>v= .pointer (some ⟨w.heap.size,0,none⟩)∧w'=w.alloc (.cells #[.string ⟨#[]⟩,int u64 0,int u64 0,.bool false,.string ⟨#[]⟩,int u64 0,.string ⟨#[]⟩] 74):=by
  have h:(execOp A.eval (Opr dst (.alloc 74) ty ps af gd)).run prog w= .ok (.value (.pointer (some ⟨w.heap.size,0,none⟩))) (w.alloc (.cells #[.string ⟨#[]⟩,int u64 0,int u64 0,.bool false,.string ⟨#[]⟩,int u64 0,.string ⟨#[]⟩] 74)):=by simp [execOp,go_sem]
  exact does_value h ⟨rfl,rfl⟩
end
theorem refI (s:ByteArray)(c:Int)(w:World):Calls prog 98 #[.string s,.int .i64 c] w fun e w'=>e= .returned (.iface 150 (.agg #[.string s,.iface 231 (.agg #[.int .i64 c])]))∧w=w':=by
  go_enter func98,ntmps98;go_wp2;go_ret;exact⟨rfl,rfl⟩
section
variable (s n:ByteArray)(t:Tri)(u:ByteArray)(v0 v4 v6:ByteArray)(v1 v2 v5:Int)(v3 ok:Bool)(er:Value)(w:World)(hv:if ok then er= .nilIface else∃T x,er= .iface T x)
include hv
theorem seaI_of (C:Cb w 47 #[.string s,.string n,.agg #[int u64 (t.1:Int),int u64 (t.2.1:Int),.bool t.2.2],.string u] (.tuple #[.agg #[.string v0,int u64 v1,int u64 v2,.bool v3,.string v4,int u64 v5,.string v6],er])):
    Cr 13 #[.string s,.string n,.agg #[int u64 (t.1:Int),int u64 (t.2.1:Int),.bool t.2.2],.string u] w (.tuple #[.agg #[.string v0,int u64 v1,int u64 v2,.bool v3,.string v4],.string v6,.bool ok]):=by
  have h6:=Bk.new w 27 #[int u64 (t.1:Int),int u64 (t.2.1:Int),.bool t.2.2];have hB:=balc w (Obj.cells #[int u64 (t.1:Int),int u64 (t.2.1:Int),.bool t.2.2] 27);obtain⟨W1,hW1⟩:∃W,w.alloc (Obj.cells #[int u64 (t.1:Int),int u64 (t.2.1:Int),.bool t.2.2] 27)=W:=⟨_,rfl⟩;rw [hW1] at h6 hB;have h8:=Bk.new W1 31 #[.string ⟨#[]⟩,int u64 0,int u64 0,.bool false,.string ⟨#[]⟩];have hlt:w.heap.size<W1.heap.size:=h6.lt;replace h6:=h6.alloc (Obj.cells #[.string ⟨#[]⟩,int u64 0,int u64 0,.bool false,.string ⟨#[]⟩] 31);replace hB:=hB.alloc hB.size (Obj.cells #[.string ⟨#[]⟩,int u64 0,int u64 0,.bool false,.string ⟨#[]⟩] 31);obtain⟨W2,hW2⟩:∃W,W1.alloc (Obj.cells #[.string ⟨#[]⟩,int u64 0,int u64 0,.bool false,.string ⟨#[]⟩] 31)=W:=⟨_,rfl⟩;rw [hW2] at h8 h6 hB;obtain⟨b8,hb8⟩:∃b,W1.heap.size=b:=⟨_,rfl⟩;obtain⟨b6,hb6⟩:∃b,w.heap.size=b:=⟨_,rfl⟩;have hl8:w.heap.size≤b8:=by omega
  rw [hb8] at h8;rw [hb6] at h6;clear hlt;have p0:W2.cell? ⟨b6,0,none⟩=some (int u64 (t.1:Int)):=h6.cell (k:=0) rfl;have p1:W2.cell? ⟨b6,1,none⟩=some (int u64 (t.2.1:Int)):=h6.cell (k:=1) rfl;have p2:W2.cell? ⟨b6,2,none⟩=some (.bool t.2.2):=h6.cell (k:=2) rfl;replace hv:Hid (if ok then er= .nilIface else∃T x,er= .iface T x):=hv;go_enter func13,ntmps13;go_wp2_with fail;refine(C _ hB).mono ?_;rintro e w1 ⟨rfl,d1⟩;replace h8:=h8.keep d1;replace hB:=hB.tr d1;clear d1 p0 p1 p2 hW1 hW2 C h6;have h11:=Bk.new w1 74 #[.string v0,int u64 v1,int u64 v2,.bool v3,.string v4,int u64 v5,.string v6];have hlt:b8<w1.heap.size:=h8.lt;replace h8:=h8.alloc (Obj.cells #[.string v0,int u64 v1,int u64 v2,.bool v3,.string v4,int u64 v5,.string v6] 74);replace hB:=hB.alloc hB.size (Obj.cells #[.string v0,int u64 v1,int u64 v2,.bool v3,.string v4,int u64 v5,.string v6] 74);obtain⟨W3,hW3⟩:∃W,w1.alloc (Obj.cells #[.string v0,int u64 v1,int u64 v2,.bool v3,.string v4,int u64 v5,.string v6] 74)=W:=⟨_,rfl⟩;rw [hW3] at h8 h11 hB;obtain⟨b11,hb11⟩:∃b,w1.heap.size=b:=⟨_,rfl⟩;rw [hb11] at h11;have n11:b11∉ [b8]:=fun h=>by have:=List.mem_singleton.1 h;omega
  go_wp2;clear hW3 hb11 hlt;replace hv:=hv.out;have c0:W3.drew.cell? ⟨b11,0+0,none⟩=some (.string v0):=h11.cell (k:=0) rfl;have c1:W3.drew.cell? ⟨b11,0+1,none⟩=some (int u64 v1):=h11.cell (k:=1) rfl;have c2:W3.drew.cell? ⟨b11,0+2,none⟩=some (int u64 v2):=h11.cell (k:=2) rfl;have c3:W3.drew.cell? ⟨b11,0+3,none⟩=some (.bool v3):=h11.cell (k:=3) rfl;have c4:W3.drew.cell? ⟨b11,0+4,none⟩=some (.string v4):=h11.cell (k:=4) rfl;have c5:W3.drew.cell? ⟨b11,0+5,none⟩=some (int u64 v5):=h11.cell (k:=5) rfl;have c6:W3.drew.cell? ⟨b11,0+6,none⟩=some (.string v6):=h11.cell (k:=6) rfl
  refine G.pool_list (W:=W3) [b8] [.val (.pointer (some ⟨b11,0+0,none⟩)),
      .val (.agg #[.string v0,int u64 v1,int u64 v2,.bool v3,.string v4]),
      .val (.pointer (some ⟨b11,0+6,none⟩)),
      .val (.string v6),
      .val (er),
      .val (.bool ok),
      .set (b8) (.cells #[.string ⟨#[]⟩,int u64 0,int u64 0,.bool false,.string ⟨#[]⟩] 31) (.cells #[.string v0,int u64 v1,int u64 v2,.bool v3,.string v4] 31),
      .val (.string v6),
      .val (.bool ok)] [[11],[21],[11],[23],[12],[25],[8,22],[24],[26]] (fun f=> [(some 21,.pointer (some ⟨b11,0+0,none⟩)),(some 22,.agg #[.string v0,int u64 v1,int u64 v2,.bool v3,.string v4]),(some 23,.pointer (some ⟨b11,0+6,none⟩)),(some 24,.string v6),(some 25,er),(some 26,.bool ok),(none,undef),(some 9,.string v6),(some 10,.bool ok)]) (by kernel_rfl) (by kernel_rfl) (by kernel_rfl) (by kernel_rfl) (fun _=>by kernel_rfl) (G.last_of [.cells #[.string ⟨#[]⟩,int u64 0,int u64 0,.bool false,.string ⟨#[]⟩] 31] (fun F R hm=>by simp at hm) (fun ob ob' k hm=>by simp at hm) (fun b ob ob' hm=>by simp at hm;simp [hm])) (fun b ob ob' hm=>by simp at hm;obtain⟨rfl,rfl,-⟩:=hm;exact h8) ?_ ?_
  · intro ix hix
    match ix,hix with
    |0,_=>exact G.obv [(11,.pointer (some ⟨b11,0,none⟩))] rfl rfl (fun A w ⟨e0,_⟩ hB=>fa_s0 e0)
    |1,_=>exact G.obv [(21,.pointer (some ⟨b11,0+0,none⟩))] rfl rfl (fun A w ⟨e0,_⟩ hB=>ldR e0 (hB.cell c0 n11) (hB.cell c1 n11) (hB.cell c2 n11) (hB.cell c3 n11) (hB.cell c4 n11))
    |2,_=>exact G.obv [(11,.pointer (some ⟨b11,0,none⟩))] rfl rfl (fun A w ⟨e0,_⟩ hB=>fa_s2 e0)
    |3,_=>exact G.obv [(23,.pointer (some ⟨b11,0+6,none⟩))] rfl rfl (fun A w ⟨e0,_⟩ hB=>Y.ldS e0 (hB.cell c6 n11))
    |4,_=>exact G.obv [(12,er)] rfl rfl (fun A w ⟨e0,_⟩ hB=>Y.move e0)
    |5,_=>exact G.obv [(25,er)] rfl rfl (fun A w ⟨e0,_⟩ hB=>eqN e0 hv)
    |6,_=>exact G.ob_set (fun f=> [(8,.pointer (some ⟨b8,0,none⟩)),(22,.agg #[.string v0,int u64 v1,int u64 v2,.bool v3,.string v4])]) rfl rfl rfl (by simp) h8.lt (fun j ob1 ob2 h=>by (rcases j with _|_|_|_|_|_|_|_|_|j)<;>simp [G.kindOf] at h⊢ <;>omega) (fun _=>by kernel_rfl) (fun f A w ⟨e0,e1,_⟩ hh hr=>Y.puA e0 e1 hr rfl (by kernel_rfl) (by simp [Value.oneCell']))
    |7,_=>exact G.obv [(24,.string v6)] rfl rfl (fun A w ⟨e0,_⟩ hB=>Y.assign e0)
    |8,_=>exact G.obv [(26,.bool ok)] rfl rfl (fun A w ⟨e0,_⟩ hB=>Y.assign e0)
    |ix+9,h=>exact absurd h (by simp)
  intro f W4 hS _ _ _ hset;have q8:Bk W4 31 b8 #[.string v0,int u64 v1,int u64 v2,.bool v3,.string v4]:=hset 6 _ _ _ rfl (by decide);have hB3:Bl w W4:=hS.under hB.drew (by intro b h;rw [List.mem_singleton.1 h];exact hl8) hB.size;clear hset hS c0 c1 c2 c3 c4 c5 c6;simp only [puts,List.foldl,Act.put,List.setIfInBounds_toArray,List.set_cons_zero,List.set_cons_succ];clear hv;go_wp2;exact bodyPost_ret (v:= .tuple #[.agg #[.string v0,int u64 v1,int u64 v2,.bool v3,.string v4],.string v6,.bool ok]) (bk_res3 (fn:=Tryz.f13) (p:=8) (u:=9) (v:=10) results13 _ rfl q8 underlying31 rfl (by kernel_rfl)) rfl ⟨rfl,hB3⟩
theorem unsI_of (C:Cb w 40 #[.string s,.string n,.agg #[int u64 (t.1:Int),int u64 (t.2.1:Int),.bool t.2.2],.string u] (.tuple #[.agg #[.string v0,int u64 v1,int u64 v2,.bool v3,.string v4,int u64 v5,.string v6],er])):
    Cr 11 #[.string s,.string n,.agg #[int u64 (t.1:Int),int u64 (t.2.1:Int),.bool t.2.2],.string u] w (.tuple #[int u64 v5,.string v6,.bool ok]):=by
  have h6:=Bk.new w 27 #[int u64 (t.1:Int),int u64 (t.2.1:Int),.bool t.2.2];have hB:=balc w (Obj.cells #[int u64 (t.1:Int),int u64 (t.2.1:Int),.bool t.2.2] 27);obtain⟨W2,hW1⟩:∃W,w.alloc (Obj.cells #[int u64 (t.1:Int),int u64 (t.2.1:Int),.bool t.2.2] 27)=W:=⟨_,rfl⟩;rw [hW1] at h6 hB;obtain⟨b6,hb6⟩:∃b,w.heap.size=b:=⟨_,rfl⟩;rw [hb6] at h6;have p0:W2.cell? ⟨b6,0,none⟩=some (int u64 (t.1:Int)):=h6.cell (k:=0) rfl;have p1:W2.cell? ⟨b6,1,none⟩=some (int u64 (t.2.1:Int)):=h6.cell (k:=1) rfl;have p2:W2.cell? ⟨b6,2,none⟩=some (.bool t.2.2):=h6.cell (k:=2) rfl;replace hv:Hid (if ok then er= .nilIface else∃T x,er= .iface T x):=hv;go_enter func11,ntmps11;go_wp2_with fail;refine(C _ hB).mono ?_;rintro e w1 ⟨rfl,d1⟩;replace hB:=hB.tr d1;clear d1 p0 p1 p2 hW1 C h6;have h11:=Bk.new w1 74 #[.string v0,int u64 v1,int u64 v2,.bool v3,.string v4,int u64 v5,.string v6];replace hB:=hB.alloc hB.size (Obj.cells #[.string v0,int u64 v1,int u64 v2,.bool v3,.string v4,int u64 v5,.string v6] 74);obtain⟨W3,hW3⟩:∃W,w1.alloc (Obj.cells #[.string v0,int u64 v1,int u64 v2,.bool v3,.string v4,int u64 v5,.string v6] 74)=W:=⟨_,rfl⟩;rw [hW3] at h11 hB;obtain⟨b11,hb11⟩:∃b,w1.heap.size=b:=⟨_,rfl⟩;rw [hb11] at h11;have n11:b11∉([]:List Nat):=fun h=>by cases h
  go_wp2;clear hW3 hb11;replace hv:=hv.out;have c0:W3.drew.cell? ⟨b11,0+0,none⟩=some (.string v0):=h11.cell (k:=0) rfl;have c1:W3.drew.cell? ⟨b11,0+1,none⟩=some (int u64 v1):=h11.cell (k:=1) rfl;have c2:W3.drew.cell? ⟨b11,0+2,none⟩=some (int u64 v2):=h11.cell (k:=2) rfl;have c3:W3.drew.cell? ⟨b11,0+3,none⟩=some (.bool v3):=h11.cell (k:=3) rfl;have c4:W3.drew.cell? ⟨b11,0+4,none⟩=some (.string v4):=h11.cell (k:=4) rfl;have c5:W3.drew.cell? ⟨b11,0+5,none⟩=some (int u64 v5):=h11.cell (k:=5) rfl;have c6:W3.drew.cell? ⟨b11,0+6,none⟩=some (.string v6):=h11.cell (k:=6) rfl
  refine G.pool_list (W:=W3) [] [.val (.pointer (some ⟨b11,0+5,none⟩)),
      .val (int u64 v5),
      .val (.pointer (some ⟨b11,0+6,none⟩)),
      .val (.string v6),
      .val (er),
      .val (.bool ok),
      .val (int u64 v5),
      .val (.string v6),
      .val (.bool ok)] [[11],[21],[11],[23],[12],[25],[22],[24],[26]] (fun f=> [(some 21,.pointer (some ⟨b11,0+5,none⟩)),(some 22,int u64 v5),(some 23,.pointer (some ⟨b11,0+6,none⟩)),(some 24,.string v6),(some 25,er),(some 26,.bool ok),(some 8,int u64 v5),(some 9,.string v6),(some 10,.bool ok)]) (by kernel_rfl) (by kernel_rfl) (by kernel_rfl) (by kernel_rfl) (fun _=>by kernel_rfl) (G.last_of [] (fun F R hm=>by simp at hm) (fun ob ob' k hm=>by simp at hm) (fun b ob ob' hm=>by simp at hm)) (fun b ob ob' hm=>by simp at hm) ?_ ?_
  · intro ix hix
    match ix,hix with
    |0,_=>exact G.obv [(11,.pointer (some ⟨b11,0,none⟩))] rfl rfl (fun A w ⟨e0,_⟩ hB=>fa_s1 e0)
    |1,_=>exact G.obv [(21,.pointer (some ⟨b11,0+5,none⟩))] rfl rfl (fun A w ⟨e0,_⟩ hB=>ldW e0 (hB.cell c5 n11))
    |2,_=>exact G.obv [(11,.pointer (some ⟨b11,0,none⟩))] rfl rfl (fun A w ⟨e0,_⟩ hB=>fa_s2 e0)
    |3,_=>exact G.obv [(23,.pointer (some ⟨b11,0+6,none⟩))] rfl rfl (fun A w ⟨e0,_⟩ hB=>Y.ldS e0 (hB.cell c6 n11))
    |4,_=>exact G.obv [(12,er)] rfl rfl (fun A w ⟨e0,_⟩ hB=>Y.move e0)
    |5,_=>exact G.obv [(25,er)] rfl rfl (fun A w ⟨e0,_⟩ hB=>eqN e0 hv)
    |6,_=>exact G.obv [(22,int u64 v5)] rfl rfl (fun A w ⟨e0,_⟩ hB=>Y.assign e0)
    |7,_=>exact G.obv [(24,.string v6)] rfl rfl (fun A w ⟨e0,_⟩ hB=>Y.assign e0)
    |8,_=>exact G.obv [(26,.bool ok)] rfl rfl (fun A w ⟨e0,_⟩ hB=>Y.assign e0)
    |ix+9,h=>exact absurd h (by simp)
  intro f W4 hS _ _ _ _;have d5:Bl W3 W4:=(Below.refl _ W3).drew.trans hS.below;replace hB:=hB.tr d5;clear hS c0 c1 c2 c3 c4 c5 c6 d5;simp only [puts,List.foldl,Act.put,List.setIfInBounds_toArray,List.set_cons_zero,List.set_cons_succ];clear hv;go_wp2;exact bodyPost_ret (v:= .tuple #[int u64 v5,.string v6,.bool ok]) (by simp [results,results11,go_sem]) rfl ⟨rfl,hB⟩
end
section
variable (s bx:ByteArray)(t:Tri)(u:ByteArray)(w:World)
theorem unlI_size (h:bx.size≠48):
    Cr 40 #[.string s,.string bx,.agg #[int u64 (t.1:Int),int u64 (t.2.1:Int),.bool t.2.2],.string u] w (.tuple #[.agg #[.string ⟨#[]⟩,int u64 0,int u64 0,.bool false,.string ⟨#[]⟩,int u64 0,.string ⟨#[]⟩],.iface 150 (.agg #[.string ⟨#[98,111,120]⟩,.iface 231 (.agg #[.int .i64 7])])]):=by
  have hB:=balc w (Obj.cells #[int u64 (t.1:Int),int u64 (t.2.1:Int),.bool t.2.2] 27);obtain⟨W1,hW1⟩:∃W,w.alloc (Obj.cells #[int u64 (t.1:Int),int u64 (t.2.1:Int),.bool t.2.2] 27)=W:=⟨_,rfl⟩;rw [hW1] at hB;have h8:=Bk.new W1 74 #[.string ⟨#[]⟩,int u64 0,int u64 0,.bool false,.string ⟨#[]⟩,int u64 0,.string ⟨#[]⟩];replace hB:=hB.alloc hB.size (Obj.cells #[.string ⟨#[]⟩,int u64 0,int u64 0,.bool false,.string ⟨#[]⟩,int u64 0,.string ⟨#[]⟩] 74);obtain⟨W2,hW2⟩:∃W,W1.alloc (Obj.cells #[.string ⟨#[]⟩,int u64 0,int u64 0,.bool false,.string ⟨#[]⟩,int u64 0,.string ⟨#[]⟩] 74)=W:=⟨_,rfl⟩;rw [hW2] at h8 hB;obtain⟨b8,hb8⟩:∃b,W1.heap.size=b:=⟨_,rfl⟩;rw [hb8] at h8;have cz0:W2.cell? ⟨b8,0,none⟩=some (.string ⟨#[]⟩):=h8.cell (k:=0) rfl;have fz0:=h8.frz 0;have ez0:W2.setCell ⟨b8,0,none⟩ (.string ⟨#[]⟩)=W2:=h8.sameS 0 rfl;have cz1:W2.cell? ⟨b8,1,none⟩=some (int u64 0):=h8.cell (k:=1) rfl;have fz1:=h8.frz 1;have ez1:W2.setCell ⟨b8,1,none⟩ (int u64 0)=W2:=h8.sameS 1 rfl;have cz2:W2.cell? ⟨b8,2,none⟩=some (int u64 0):=h8.cell (k:=2) rfl;have fz2:=h8.frz 2;have ez2:W2.setCell ⟨b8,2,none⟩ (int u64 0)=W2:=h8.sameS 2 rfl;have cz3:W2.cell? ⟨b8,3,none⟩=some (.bool false):=h8.cell (k:=3) rfl;have fz3:=h8.frz 3;have ez3:W2.setCell ⟨b8,3,none⟩ (.bool false)=W2:=h8.sameS 3 rfl;have cz4:W2.cell? ⟨b8,4,none⟩=some (.string ⟨#[]⟩):=h8.cell (k:=4) rfl;have fz4:=h8.frz 4;have ez4:W2.setCell ⟨b8,4,none⟩ (.string ⟨#[]⟩)=W2:=h8.sameS 4 rfl;have cz5:W2.cell? ⟨b8,5,none⟩=some (int u64 0):=h8.cell (k:=5) rfl;have fz5:=h8.frz 5;have ez5:W2.setCell ⟨b8,5,none⟩ (int u64 0)=W2:=h8.sameS 5 rfl;have cz6:W2.cell? ⟨b8,6,none⟩=some (.string ⟨#[]⟩):=h8.cell (k:=6) rfl;have fz6:=h8.frz 6;have ez6:W2.setCell ⟨b8,6,none⟩ (.string ⟨#[]⟩)=W2:=h8.sameS 6 rfl;have h': ¬ ((bx.size:Int)=48):=by omega
  clear h;go_enter func40,ntmps40;go_wp2_with fail;refine(refI _ _ _).mono ?_;rintro e w1 ⟨rfl,rfl⟩;go_wp2
  all_goals
    exact bodyPost_ret (v:= .tuple #[.agg #[.string ⟨#[]⟩,int u64 0,int u64 0,.bool false,.string ⟨#[]⟩,int u64 0,.string ⟨#[]⟩],.iface 150 (.agg #[.string ⟨#[98,111,120]⟩,.iface 231 (.agg #[.int .i64 7])])]) (bk_res2 (fn:=Tryz.f40) (p:=8) (u:=9) results40 _ rfl h8 underlying74 rfl (by kernel_rfl)) rfl ⟨rfl,hB⟩
variable (v0 v4 v6:ByteArray)(v1 v2 v5:Int)(v3:Bool)
theorem unlI_of (er:Value)(ok:Bool)(hv:if ok then er= .nilIface else∃T x,er= .iface T x)(h:bx.size=48)
    (C:Cb w 47 #[.string s,.string (bx.extract 0 16),.agg #[int u64 (t.1:Int),int u64 (t.2.1:Int),.bool t.2.2],.string u] (.tuple #[.agg #[.string v0,int u64 v1,int u64 v2,.bool v3,.string v4,int u64 v5,.string v6],er])):
    Cr 40 #[.string s,.string bx,.agg #[int u64 (t.1:Int),int u64 (t.2.1:Int),.bool t.2.2],.string u] w (if ok&&decide (v4=bx) then .tuple #[.agg #[.string v0,int u64 v1,int u64 v2,.bool v3,.string v4,int u64 v5,.string v6],.nilIface] else .tuple #[.agg #[.string ⟨#[]⟩,int u64 0,int u64 0,.bool false,.string ⟨#[]⟩,int u64 0,.string ⟨#[]⟩],.iface 150 (.agg #[.string ⟨#[98,111,120]⟩,.iface 231 (.agg #[.int .i64 7])])]):=by
  have h6:=Bk.new w 27 #[int u64 (t.1:Int),int u64 (t.2.1:Int),.bool t.2.2];have hB:=balc w (Obj.cells #[int u64 (t.1:Int),int u64 (t.2.1:Int),.bool t.2.2] 27);obtain⟨W1,hW1⟩:∃W,w.alloc (Obj.cells #[int u64 (t.1:Int),int u64 (t.2.1:Int),.bool t.2.2] 27)=W:=⟨_,rfl⟩;rw [hW1] at h6 hB;have h8:=Bk.new W1 74 #[.string ⟨#[]⟩,int u64 0,int u64 0,.bool false,.string ⟨#[]⟩,int u64 0,.string ⟨#[]⟩];have hlt:w.heap.size<W1.heap.size:=h6.lt;replace h6:=h6.alloc (Obj.cells #[.string ⟨#[]⟩,int u64 0,int u64 0,.bool false,.string ⟨#[]⟩,int u64 0,.string ⟨#[]⟩] 74);replace hB:=hB.alloc hB.size (Obj.cells #[.string ⟨#[]⟩,int u64 0,int u64 0,.bool false,.string ⟨#[]⟩,int u64 0,.string ⟨#[]⟩] 74);obtain⟨W2,hW2⟩:∃W,W1.alloc (Obj.cells #[.string ⟨#[]⟩,int u64 0,int u64 0,.bool false,.string ⟨#[]⟩,int u64 0,.string ⟨#[]⟩] 74)=W:=⟨_,rfl⟩;rw [hW2] at h8 h6 hB;obtain⟨b8,hb8⟩:∃b,W1.heap.size=b:=⟨_,rfl⟩;obtain⟨b6,hb6⟩:∃b,w.heap.size=b:=⟨_,rfl⟩;have hl8:w.heap.size≤b8:=by omega
  rw [hb8] at h8;rw [hb6] at h6;clear hlt;have h16:16≤bx.size:=by omega
  have h48:(bx.size:Int)=48:=by omega
  have CB:∀w',G.Sides [] W2.drew w'→Cr 47 #[.string s,.string (bx.extract 0 16),.agg #[int u64 (t.1:Int),int u64 (t.2.1:Int),.bool t.2.2],.string u] w' (.tuple #[.agg #[.string v0,int u64 v1,int u64 v2,.bool v3,.string v4,int u64 v5,.string v6],er]):=fun w' hS=>C w' (hB.trans (((Below.refl _ W2).drew.trans hS.below).mono hB.size))
  replace hv:Hid (if ok then er= .nilIface else∃T x,er= .iface T x):=hv;obtain⟨RS,hRS⟩:∃r:Value,Hid (r=if ok&&decide (v4=bx) then .tuple #[.agg #[.string v0,int u64 v1,int u64 v2,.bool v3,.string v4,int u64 v5,.string v6],.nilIface] else .tuple #[.agg #[.string ⟨#[]⟩,int u64 0,int u64 0,.bool false,.string ⟨#[]⟩,int u64 0,.string ⟨#[]⟩],.iface 150 (.agg #[.string ⟨#[98,111,120]⟩,.iface 231 (.agg #[.int .i64 7])])]):=⟨_,rfl⟩;rw [←hRS.out];clear C h;go_enter func40,ntmps40;go_wp2;clear hW1 hW2
  refine G.pool_list (W:=W2) [] [.val (.string s),
      .val (.string bx),
      .val (.string (bx.extract 0 16)),
      .val (.agg #[int u64 (t.1:Int),int u64 (t.2.1:Int),.bool t.2.2]),
      .val (.string u),
      .val (.tuple #[.agg #[.string v0,int u64 v1,int u64 v2,.bool v3,.string v4,int u64 v5,.string v6],er]),
      .val (.tuple #[.agg #[.string v0,int u64 v1,int u64 v2,.bool v3,.string v4,int u64 v5,.string v6],er]),
      .val (.agg #[.string v0,int u64 v1,int u64 v2,.bool v3,.string v4,int u64 v5,.string v6]),
      .val (er),
      .new (.cells #[.string ⟨#[]⟩,int u64 0,int u64 0,.bool false,.string ⟨#[]⟩,int u64 0,.string ⟨#[]⟩] 74) (.cells #[.string v0,int u64 v1,int u64 v2,.bool v3,.string v4,int u64 v5,.string v6] 74) 10,
      .put 9,
      .val (er)] [[0],[1],[19],[6],[3],[18,20,21,22],[23],[17],[17],[],[10,24],[25]] (fun f=> [(some 18,.string s),(some 19,.string bx),(some 20,.string (bx.extract 0 16)),(some 21,.agg #[int u64 (t.1:Int),int u64 (t.2.1:Int),.bool t.2.2]),(some 22,.string u),(some 23,.tuple #[.agg #[.string v0,int u64 v1,int u64 v2,.bool v3,.string v4,int u64 v5,.string v6],er]),(some 17,.tuple #[.agg #[.string v0,int u64 v1,int u64 v2,.bool v3,.string v4,int u64 v5,.string v6],er]),(some 24,.agg #[.string v0,int u64 v1,int u64 v2,.bool v3,.string v4,int u64 v5,.string v6]),(some 25,er),(some 10,.pointer (some ⟨f 9,0,none⟩)),(none,undef),(some 11,er)]) (by kernel_rfl) (by kernel_rfl) (by kernel_rfl) (by kernel_rfl) (fun _=>by kernel_rfl) (G.last_of [.cells #[.string ⟨#[]⟩,int u64 0,int u64 0,.bool false,.string ⟨#[]⟩,int u64 0,.string ⟨#[]⟩] 74] (fun F R hm=>by simp at hm) (fun ob ob' k hm=>by simp at hm;simp [hm]) (fun b ob ob' hm=>by simp at hm)) (fun b ob ob' hm=>by simp at hm) ?_ ?_
  · intro ix hix
    match ix,hix with
    |0,_=>exact G.obv [(0,.string s)] rfl rfl (fun A w ⟨e0,_⟩ hB=>Y.move e0)
    |1,_=>exact G.obv [(1,.string bx)] rfl rfl (fun A w ⟨e0,_⟩ hB=>Y.move e0)
    |2,_=>exact G.obv [(19,.string bx)] rfl rfl (fun A w ⟨e0,_⟩ hB=>slH e0 h16)
    |3,_=>exact G.obv [(6,.pointer (some ⟨b6,0,none⟩))] rfl rfl (fun A w ⟨e0,_⟩ hB=>Y.ldT underlying27 rfl (by kernel_rfl) e0 (Y.side hB h6))
    |4,_=>exact G.obv [(3,.string u)] rfl rfl (fun A w ⟨e0,_⟩ hB=>Y.move e0)
    |5,_=>exact G.obv [(18,.string s),(20,.string (bx.extract 0 16)),(21,.agg #[int u64 (t.1:Int),int u64 (t.2.1:Int),.bool t.2.2]),(22,.string u)] rfl rfl (fun A w ⟨e0,e1,e2,e3,_⟩ hB=>Y.cl4 cfSl e0 e1 e2 e3 (CB w hB))
    |6,_=>exact G.obv [(23,.tuple #[.agg #[.string v0,int u64 v1,int u64 v2,.bool v3,.string v4,int u64 v5,.string v6],er])] rfl rfl (fun A w ⟨e0,_⟩ hB=>Y.move e0)
    |7,_=>exact G.obv [(17,.tuple #[.agg #[.string v0,int u64 v1,int u64 v2,.bool v3,.string v4,int u64 v5,.string v6],er])] rfl rfl (fun A w ⟨e0,_⟩ hB=>Y.xt20 e0)
    |8,_=>exact G.obv [(17,.tuple #[.agg #[.string v0,int u64 v1,int u64 v2,.bool v3,.string v4,int u64 v5,.string v6],er])] rfl rfl (fun A w ⟨e0,_⟩ hB=>Y.xt21 e0)
    |9,_=>exact G.ob_new rfl rfl (fun A w=>alS)
    |10,_=>exact G.ob_put 10 (fun f=> [(10,.pointer (some ⟨f 9,0,none⟩)),(24,.agg #[.string v0,int u64 v1,int u64 v2,.bool v3,.string v4,int u64 v5,.string v6])]) rfl rfl rfl (by decide) (by kernel_rfl) rfl (fun _=>by kernel_rfl) (fun f A w ⟨e0,e1,_⟩ hr=>Y.puA e0 e1 hr rfl (by kernel_rfl) (by simp [Value.oneCell']))
    |11,_=>exact G.obv [(25,er)] rfl rfl (fun A w ⟨e0,_⟩ hB=>Y.assign e0)
    |ix+12,h=>exact absurd h (by simp)
  intro f w2 hS hnew y1 y2 y3;obtain⟨hb0,hbn⟩:=hnew 9 _ _ _ rfl (by decide);have h10:Bk w2 74 (f 9) #[.string v0,int u64 v1,int u64 v2,.bool v3,.string v4,int u64 v5,.string v6]:=hbn;have hlo:W2.heap.size≤f 9:=hb0;have d5:Bl W2 w2:=(Below.refl _ W2).drew.trans hS.below;have h8lt:=h8.lt;replace h8:=h8.keep d5;replace hB:=hB.tr d5;clear hS hnew y1 y2 y3 hbn hb0 d5 CB h6;simp only [puts,List.foldl,Act.put,List.setIfInBounds_toArray,List.set_cons_zero,List.set_cons_succ];obtain⟨b10,hb10⟩:∃b,b=f 9:=⟨_,rfl⟩;rw [←hb10] at h10 hlo;simp only [←hb10];have n10:b10≠b8:=by omega
  have n10':b8≠b10:=by omega
  clear hb10 hlo h8lt;replace hv:=hv.out;have c0:w2.cell? ⟨b10,0,none⟩=some (.string v0):=h10.cell (k:=0) rfl;have c1:w2.cell? ⟨b10,1,none⟩=some (int u64 v1):=h10.cell (k:=1) rfl;have c2:w2.cell? ⟨b10,2,none⟩=some (int u64 v2):=h10.cell (k:=2) rfl;have c3:w2.cell? ⟨b10,3,none⟩=some (.bool v3):=h10.cell (k:=3) rfl;have c4:w2.cell? ⟨b10,4,none⟩=some (.string v4):=h10.cell (k:=4) rfl;have c5:w2.cell? ⟨b10,5,none⟩=some (int u64 v5):=h10.cell (k:=5) rfl;have c6:w2.cell? ⟨b10,6,none⟩=some (.string v6):=h10.cell (k:=6) rfl
  cases ok with
  | false=>
    rw [if_neg (by decide)] at hv;obtain⟨T,x,rfl⟩:=hv;have cz0:w2.cell? ⟨b8,0,none⟩=some (.string ⟨#[]⟩):=h8.cell (k:=0) rfl;have fz0:=h8.frz 0;have ez0:w2.setCell ⟨b8,0,none⟩ (.string ⟨#[]⟩)=w2:=h8.sameS 0 rfl;have cz1:w2.cell? ⟨b8,1,none⟩=some (int u64 0):=h8.cell (k:=1) rfl;have fz1:=h8.frz 1;have ez1:w2.setCell ⟨b8,1,none⟩ (int u64 0)=w2:=h8.sameS 1 rfl;have cz2:w2.cell? ⟨b8,2,none⟩=some (int u64 0):=h8.cell (k:=2) rfl;have fz2:=h8.frz 2;have ez2:w2.setCell ⟨b8,2,none⟩ (int u64 0)=w2:=h8.sameS 2 rfl;have cz3:w2.cell? ⟨b8,3,none⟩=some (.bool false):=h8.cell (k:=3) rfl;have fz3:=h8.frz 3;have ez3:w2.setCell ⟨b8,3,none⟩ (.bool false)=w2:=h8.sameS 3 rfl;have cz4:w2.cell? ⟨b8,4,none⟩=some (.string ⟨#[]⟩):=h8.cell (k:=4) rfl;have fz4:=h8.frz 4;have ez4:w2.setCell ⟨b8,4,none⟩ (.string ⟨#[]⟩)=w2:=h8.sameS 4 rfl;have cz5:w2.cell? ⟨b8,5,none⟩=some (int u64 0):=h8.cell (k:=5) rfl;have fz5:=h8.frz 5;have ez5:w2.setCell ⟨b8,5,none⟩ (int u64 0)=w2:=h8.sameS 5 rfl;have cz6:w2.cell? ⟨b8,6,none⟩=some (.string ⟨#[]⟩):=h8.cell (k:=6) rfl;have fz6:=h8.frz 6;have ez6:w2.setCell ⟨b8,6,none⟩ (.string ⟨#[]⟩)=w2:=h8.sameS 6 rfl;have hr0:=hRS.out;rw [Bool.false_and,if_neg (by decide)] at hr0;replace hr0:Hid _:=hr0;go_wp2_with fail;refine(refI _ _ _).mono ?_;rintro e w1 ⟨rfl,rfl⟩;go_wp2
    all_goals
      exact bodyPost_ret (v:= .tuple #[.agg #[.string ⟨#[]⟩,int u64 0,int u64 0,.bool false,.string ⟨#[]⟩,int u64 0,.string ⟨#[]⟩],.iface 150 (.agg #[.string ⟨#[98,111,120]⟩,.iface 231 (.agg #[.int .i64 7])])]) (bk_res2 (fn:=Tryz.f40) (p:=8) (u:=9) results40 _ rfl h8 underlying74 rfl (by kernel_rfl)) rfl ⟨by rw [hr0.out],hB⟩
  | true=>
    rw [if_pos rfl] at hv;subst hv;by_cases hq:v4=bx
    · subst hq;have hr0:=hRS.out;rw [decide_eq_true rfl,Bool.and_true,if_pos rfl] at hr0;replace hr0:Hid _:=hr0;have cz0:w2.cell? ⟨b8,0,none⟩=some (.string ⟨#[]⟩):=h8.cell (k:=0) rfl;have fz0:=h8.frz 0;have cz1:w2.cell? ⟨b8,1,none⟩=some (int u64 0):=h8.cell (k:=1) rfl;have fz1:=h8.frz 1;have cz2:w2.cell? ⟨b8,2,none⟩=some (int u64 0):=h8.cell (k:=2) rfl;have fz2:=h8.frz 2;have cz3:w2.cell? ⟨b8,3,none⟩=some (.bool false):=h8.cell (k:=3) rfl;have fz3:=h8.frz 3;have cz4:w2.cell? ⟨b8,4,none⟩=some (.string ⟨#[]⟩):=h8.cell (k:=4) rfl;have fz4:=h8.frz 4;have cz5:w2.cell? ⟨b8,5,none⟩=some (int u64 0):=h8.cell (k:=5) rfl;have fz5:=h8.frz 5;have cz6:w2.cell? ⟨b8,6,none⟩=some (.string ⟨#[]⟩):=h8.cell (k:=6) rfl;have fz6:=h8.frz 6;go_wp2
      all_goals
        have hMn:=(((((((h8.set 0 (.string v0)).set 1 (int u64 v1)).set 2 (int u64 v2)).set 3 (.bool v3)).set 4 (.string v4)).set 5 (int u64 v5)).set 6 (.string v6));have hBn:=(((((((hB.setCell (p:=⟨b8,0,none⟩) hl8 (.string v0)).setCell (p:=⟨b8,1,none⟩) hl8 (int u64 v1)).setCell (p:=⟨b8,2,none⟩) hl8 (int u64 v2)).setCell (p:=⟨b8,3,none⟩) hl8 (.bool v3)).setCell (p:=⟨b8,4,none⟩) hl8 (.string v4)).setCell (p:=⟨b8,5,none⟩) hl8 (int u64 v5)).setCell (p:=⟨b8,6,none⟩) hl8 (.string v6));simp only [List.setIfInBounds_toArray,List.set_cons_zero,List.set_cons_succ] at hMn;exact bodyPost_ret (v:= .tuple #[.agg #[.string v0,int u64 v1,int u64 v2,.bool v3,.string v4,int u64 v5,.string v6],.nilIface]) (bk_res2 (fn:=Tryz.f40) (p:=8) (u:=9) results40 _ rfl hMn underlying74 rfl (by kernel_rfl)) rfl ⟨by rw [hr0.out],by first | exact hBn | (rw [←hb6];exact hBn)⟩
    · have hne:=str_neS hq;have hr0:=hRS.out;rw [decide_eq_false hq,Bool.and_false,if_neg (by decide)] at hr0;replace hr0:Hid _:=hr0;clear hq;have cz0:w2.cell? ⟨b8,0,none⟩=some (.string ⟨#[]⟩):=h8.cell (k:=0) rfl;have fz0:=h8.frz 0;have ez0:w2.setCell ⟨b8,0,none⟩ (.string ⟨#[]⟩)=w2:=h8.sameS 0 rfl;have cz1:w2.cell? ⟨b8,1,none⟩=some (int u64 0):=h8.cell (k:=1) rfl;have fz1:=h8.frz 1;have ez1:w2.setCell ⟨b8,1,none⟩ (int u64 0)=w2:=h8.sameS 1 rfl;have cz2:w2.cell? ⟨b8,2,none⟩=some (int u64 0):=h8.cell (k:=2) rfl;have fz2:=h8.frz 2;have ez2:w2.setCell ⟨b8,2,none⟩ (int u64 0)=w2:=h8.sameS 2 rfl;have cz3:w2.cell? ⟨b8,3,none⟩=some (.bool false):=h8.cell (k:=3) rfl;have fz3:=h8.frz 3;have ez3:w2.setCell ⟨b8,3,none⟩ (.bool false)=w2:=h8.sameS 3 rfl;have cz4:w2.cell? ⟨b8,4,none⟩=some (.string ⟨#[]⟩):=h8.cell (k:=4) rfl;have fz4:=h8.frz 4;have ez4:w2.setCell ⟨b8,4,none⟩ (.string ⟨#[]⟩)=w2:=h8.sameS 4 rfl;have cz5:w2.cell? ⟨b8,5,none⟩=some (int u64 0):=h8.cell (k:=5) rfl;have fz5:=h8.frz 5;have ez5:w2.setCell ⟨b8,5,none⟩ (int u64 0)=w2:=h8.sameS 5 rfl;have cz6:w2.cell? ⟨b8,6,none⟩=some (.string ⟨#[]⟩):=h8.cell (k:=6) rfl;have fz6:=h8.frz 6;have ez6:w2.setCell ⟨b8,6,none⟩ (.string ⟨#[]⟩)=w2:=h8.sameS 6 rfl;go_wp2_with fail;refine(refI _ _ _).mono ?_;rintro e w1 ⟨rfl,rfl⟩;go_wp2
      all_goals
        exact bodyPost_ret (v:= .tuple #[.agg #[.string ⟨#[]⟩,int u64 0,int u64 0,.bool false,.string ⟨#[]⟩,int u64 0,.string ⟨#[]⟩],.iface 150 (.agg #[.string ⟨#[98,111,120]⟩,.iface 231 (.agg #[.int .i64 7])])]) (bk_res2 (fn:=Tryz.f40) (p:=8) (u:=9) results40 _ rfl h8 underlying74 rfl (by kernel_rfl)) rfl ⟨by rw [hr0.out],hB⟩
end
theorem cfSS (args:Array Value)(w:World):(callFunc 12 args).run prog w= .ok (.enter 12 args) w:=by kernel_rfl
theorem alR {A:Act}{w:World}{dst:Option Tmp}{ty:TypeId}{ps:String}{af:Array Edge}{gd:Option (Nat×Bool)}:Does prog (Opr dst (.alloc 31) ty ps af gd) A w fun v w'=>v= .pointer (some ⟨w.heap.size,0,none⟩)∧w'=w.alloc (.cells #[.string ⟨#[]⟩,int u64 0,int u64 0,.bool false,.string ⟨#[]⟩] 31):=by
  have h:(execOp A.eval (Opr dst (.alloc 31) ty ps af gd)).run prog w= .ok (.value (.pointer (some ⟨w.heap.size,0,none⟩))) (w.alloc (.cells #[.string ⟨#[]⟩,int u64 0,int u64 0,.bool false,.string ⟨#[]⟩] 31)):=by simp [execOp,go_sem]
  exact does_value h ⟨rfl,rfl⟩
section
variable (s bx:ByteArray)(t:Tri)(u:ByteArray)(w:World)
theorem unsS_size (h:bx.size≠48):
    Cr 9 #[.string s,.string bx,.agg #[int u64 (t.1:Int),int u64 (t.2.1:Int),.bool t.2.2],.string u] w (.tuple #[int u64 0,.string ⟨#[]⟩,.bool false]):=by
  have h': ¬ ((bx.size:Int)=48):=by omega
  clear h;go_enter func9,ntmps9;go_wp2;exact bodyPost_ret (v:= .tuple #[int u64 0,.string ⟨#[]⟩,.bool false]) (by simp [results,results9,go_sem]) rfl ⟨rfl,(Below.refl _ w).alloc (Nat.le_refl _) _⟩
variable (v0 v4 v6:ByteArray)(v1 v2:Int)(v3:Bool)(k:Nat)(kb:Bool)
theorem unsS_of (ok:Bool)(h:bx.size=48)
    (C:Cc 12 #[.string s,.string (bx.extract 0 16),.agg #[int u64 (t.1:Int),int u64 (t.2.1:Int),.bool t.2.2],.string u] (.tuple #[.agg #[.string v0,int u64 v1,int u64 v2,.bool v3,.string v4],.string v6,.bool ok]))
    (K:Cc 39 #[.string s,.string (bx.extract 0 16)] (.tuple #[int u64 (k:Int),.bool kb])):
    Cr 9 #[.string s,.string bx,.agg #[int u64 (t.1:Int),int u64 (t.2.1:Int),.bool t.2.2],.string u] w (if ok&&decide (v4=bx) then .tuple #[int u64 (k:Int),.string v6,.bool true] else .tuple #[int u64 0,.string ⟨#[]⟩,.bool false]):=by
  have h6:=Bk.new w 27 #[int u64 (t.1:Int),int u64 (t.2.1:Int),.bool t.2.2];have hB:=balc w (Obj.cells #[int u64 (t.1:Int),int u64 (t.2.1:Int),.bool t.2.2] 27);obtain⟨W2,hW1⟩:∃W,w.alloc (Obj.cells #[int u64 (t.1:Int),int u64 (t.2.1:Int),.bool t.2.2] 27)=W:=⟨_,rfl⟩;rw [hW1] at h6 hB;obtain⟨b6,hb6⟩:∃b,w.heap.size=b:=⟨_,rfl⟩;rw [hb6] at h6;have h16:16≤bx.size:=by omega
  have h16':(16:Int)≤(bx.size:Int):=by omega
  have h48:(bx.size:Int)=48:=by omega
  obtain⟨RS,hRS⟩:∃r:Value,Hid (r=if ok&&decide (v4=bx) then .tuple #[int u64 (k:Int),.string v6,.bool true] else .tuple #[int u64 0,.string ⟨#[]⟩,.bool false]):=⟨_,rfl⟩;rw [←hRS.out];clear h;go_enter func9,ntmps9;go_wp2;clear hW1
  refine G.pool_list (W:=W2) [] [.val (.string s),
      .val (.string bx),
      .val (.string (bx.extract 0 16)),
      .val (.agg #[int u64 (t.1:Int),int u64 (t.2.1:Int),.bool t.2.2]),
      .val (.string u),
      .val (.tuple #[.agg #[.string v0,int u64 v1,int u64 v2,.bool v3,.string v4],.string v6,.bool ok]),
      .val (.tuple #[.agg #[.string v0,int u64 v1,int u64 v2,.bool v3,.string v4],.string v6,.bool ok]),
      .val (.agg #[.string v0,int u64 v1,int u64 v2,.bool v3,.string v4]),
      .val (.string v6),
      .val (.bool ok),
      .new (.cells #[.string ⟨#[]⟩,int u64 0,int u64 0,.bool false,.string ⟨#[]⟩] 31) (.cells #[.string v0,int u64 v1,int u64 v2,.bool v3,.string v4] 31) 11,
      .put 10,
      .val (.string v6),
      .val (.bool ok)] [[0],[1],[21],[6],[3],[20,22,23,24],[25],[19],[19],[19],[],[11,26],[27],[28]] (fun f=> [(some 20,.string s),(some 21,.string bx),(some 22,.string (bx.extract 0 16)),(some 23,.agg #[int u64 (t.1:Int),int u64 (t.2.1:Int),.bool t.2.2]),(some 24,.string u),(some 25,.tuple #[.agg #[.string v0,int u64 v1,int u64 v2,.bool v3,.string v4],.string v6,.bool ok]),(some 19,.tuple #[.agg #[.string v0,int u64 v1,int u64 v2,.bool v3,.string v4],.string v6,.bool ok]),(some 26,.agg #[.string v0,int u64 v1,int u64 v2,.bool v3,.string v4]),(some 27,.string v6),(some 28,.bool ok),(some 11,.pointer (some ⟨f 10,0,none⟩)),(none,undef),(some 12,.string v6),(some 13,.bool ok)]) (by kernel_rfl) (by kernel_rfl) (by kernel_rfl) (by kernel_rfl) (fun _=>by kernel_rfl) (G.last_of [.cells #[.string ⟨#[]⟩,int u64 0,int u64 0,.bool false,.string ⟨#[]⟩] 31] (fun F R hm=>by simp at hm) (fun ob ob' k hm=>by simp at hm;simp [hm]) (fun b ob ob' hm=>by simp at hm)) (fun b ob ob' hm=>by simp at hm) ?_ ?_
  · intro ix hix
    match ix,hix with
    |0,_=>exact G.obv [(0,.string s)] rfl rfl (fun A w ⟨e0,_⟩ hB=>Y.move e0)
    |1,_=>exact G.obv [(1,.string bx)] rfl rfl (fun A w ⟨e0,_⟩ hB=>Y.move e0)
    |2,_=>exact G.obv [(21,.string bx)] rfl rfl (fun A w ⟨e0,_⟩ hB=>slH e0 h16)
    |3,_=>exact G.obv [(6,.pointer (some ⟨b6,0,none⟩))] rfl rfl (fun A w ⟨e0,_⟩ hB=>Y.ldT underlying27 rfl (by kernel_rfl) e0 (Y.side hB h6))
    |4,_=>exact G.obv [(3,.string u)] rfl rfl (fun A w ⟨e0,_⟩ hB=>Y.move e0)
    |5,_=>exact G.obv [(20,.string s),(22,.string (bx.extract 0 16)),(23,.agg #[int u64 (t.1:Int),int u64 (t.2.1:Int),.bool t.2.2]),(24,.string u)] rfl rfl (fun A w ⟨e0,e1,e2,e3,_⟩ hB=>Y.cl4 cfSS e0 e1 e2 e3 (by have h:=C w;exact h))
    |6,_=>exact G.obv [(25,.tuple #[.agg #[.string v0,int u64 v1,int u64 v2,.bool v3,.string v4],.string v6,.bool ok])] rfl rfl (fun A w ⟨e0,_⟩ hB=>Y.move e0)
    |7,_=>exact G.obv [(19,.tuple #[.agg #[.string v0,int u64 v1,int u64 v2,.bool v3,.string v4],.string v6,.bool ok])] rfl rfl (fun A w ⟨e0,_⟩ hB=>Y.xt30 e0)
    |8,_=>exact G.obv [(19,.tuple #[.agg #[.string v0,int u64 v1,int u64 v2,.bool v3,.string v4],.string v6,.bool ok])] rfl rfl (fun A w ⟨e0,_⟩ hB=>Y.xt31 e0)
    |9,_=>exact G.obv [(19,.tuple #[.agg #[.string v0,int u64 v1,int u64 v2,.bool v3,.string v4],.string v6,.bool ok])] rfl rfl (fun A w ⟨e0,_⟩ hB=>Y.xt32 e0)
    |10,_=>exact G.ob_new rfl rfl (fun A w=>alR)
    |11,_=>exact G.ob_put 11 (fun f=> [(11,.pointer (some ⟨f 10,0,none⟩)),(26,.agg #[.string v0,int u64 v1,int u64 v2,.bool v3,.string v4])]) rfl rfl rfl (by decide) (by kernel_rfl) rfl (fun _=>by kernel_rfl) (fun f A w ⟨e0,e1,_⟩ hr=>Y.puA e0 e1 hr rfl (by kernel_rfl) (by simp [Value.oneCell']))
    |12,_=>exact G.obv [(27,.string v6)] rfl rfl (fun A w ⟨e0,_⟩ hB=>Y.assign e0)
    |13,_=>exact G.obv [(28,.bool ok)] rfl rfl (fun A w ⟨e0,_⟩ hB=>Y.assign e0)
    |ix+14,h=>exact absurd h (by simp)
  intro f w2 hS hnew y1 y2 y3;obtain⟨hb0,hbn⟩:=hnew 10 _ _ _ rfl (by decide);have h11:Bk w2 31 (f 10) #[.string v0,int u64 v1,int u64 v2,.bool v3,.string v4]:=hbn;have d5:Bl W2 w2:=(Below.refl _ W2).drew.trans hS.below;replace hB:=hB.tr d5;clear hS hnew y1 y2 y3 hbn hb0 d5 C h6;simp only [puts,List.foldl,Act.put,List.setIfInBounds_toArray,List.set_cons_zero,List.set_cons_succ];obtain⟨b11,hb11⟩:∃b,b=f 10:=⟨_,rfl⟩;rw [←hb11] at h11;simp only [←hb11];clear hb11;have c4:w2.cell? ⟨b11,4,none⟩=some (.string v4):=h11.cell (k:=4) rfl
  cases ok with
  | false=>
    have hr0:=hRS.out;rw [Bool.false_and,if_neg (by decide)] at hr0;replace hr0:Hid _:=hr0;go_wp2;exact bodyPost_ret (v:= .tuple #[int u64 0,.string ⟨#[]⟩,.bool false]) (by simp [results,results9,go_sem]) rfl ⟨by rw [hr0.out],hB⟩
  | true=>
    by_cases hq:v4=bx
    · subst hq;have hr0:=hRS.out;rw [decide_eq_true rfl,Bool.and_true,if_pos rfl] at hr0;replace hr0:Hid _:=hr0;go_wp2_with fail;refine(K _).mono ?_;rintro e w3 ⟨rfl,d3⟩;replace hB:=hB.tr d3;go_wp2;exact bodyPost_ret (v:= .tuple #[int u64 (k:Int),.string v6,.bool true]) (by simp [results,results9,go_sem]) rfl ⟨by rw [hr0.out],hB⟩
    · have hne:=str_neS hq;have hr0:=hRS.out;rw [decide_eq_false hq,Bool.and_false,if_neg (by decide)] at hr0;replace hr0:Hid _:=hr0;clear hq;go_wp2;exact bodyPost_ret (v:= .tuple #[int u64 0,.string ⟨#[]⟩,.bool false]) (by simp [results,results9,go_sem]) rfl ⟨by rw [hr0.out],hB⟩
end
noncomputable def unO (s bx:ByteArray) (t:Tri) (u:ByteArray):Bool:=decide (bx.size=48)&&slO s (bx.extract 0 16) t u&&decide (bx.extract 0 16++slM s (bx.extract 0 16) t u=bx)
noncomputable def unV (s bx:ByteArray) (t:Tri) (u:ByteArray):Value:=if unO s bx t u then .tuple #[int u64 ((prK s (bx.extract 0 16)).1:Nat),.string (prB s (bx.extract 0 16) wExp),.bool true] else .tuple #[int u64 0,.string ⟨#[]⟩,.bool false]
theorem unS (s bx:ByteArray)(t:Tri)(u:ByteArray)(w:World)(hl1:s.size≤1048576)(hl3:u.size≤1048576):
    Cr 9 #[.string s,.string bx,.agg #[int u64 (t.1:Int),int u64 (t.2.1:Int),.bool t.2.2],.string u] w (unV s bx t u):=by
  unfold unV unO;by_cases h:bx.size=48
  · have hz:(bx.extract 0 16).size=16:=by rw [ByteArray.size_extract];omega
    have C:=fun w=>selS s (bx.extract 0 16) t u w hl1 (by omega) hl3
    have K:=fun w=>privS s (bx.extract 0 16) w hl1 (by omega)
    rw [decide_eq_true h,Bool.true_and];unfold rcL xpB at C
    cases ho:slO s (bx.extract 0 16) t u with
    | true=>
      rw [ho] at C;exact unsS_of s bx t u w _ _ _ _ _ _ _ _ true h C K
    | false=>
      rw [ho] at C;have:=unsS_of s bx t u w _ _ _ _ _ _ _ _ false h C K;simpa using this
  · rw [decide_eq_false h,Bool.false_and,Bool.false_and,if_neg (by decide)];exact unsS_size s bx t u w h
theorem slV {a0 a2:Addr}{s n:ByteArray}{t:Tri}{u:ByteArray}:if slO s n t u then slE a0 a2 s n t u= .nilIface else∃T x,slE a0 a2 s n t u= .iface T x:=by
  cases h:slO s n t u with
  |true=>rw [if_pos rfl];exact slE_yes h
  |false=>rw [if_neg (by decide)];exact slE_no h
theorem unI (s bx:ByteArray)(t:Tri)(u:ByteArray)(a0 a2:Addr)(w:World)(hT:TabK w)(hs:So w a0 a2):
    Cr 11 #[.string s,.string bx,.agg #[int u64 (t.1:Int),int u64 (t.2.1:Int),.bool t.2.2],.string u] w (unV s bx t u):=by
  unfold unV unO;by_cases h:bx.size=48
  · rw [decide_eq_true h,Bool.true_and];have C:=fun w0 (hb0:Bl w w0) w' (hb:Bl w0 w')=>slI s (bx.extract 0 16) t u a0 a2 w' (hT.kept (hb0.tr hb)) (hs.keep (hb0.tr hb))
    have hv:=slV (a0:=a0) (a2:=a2) (s:=s) (n:=bx.extract 0 16) (t:=t) (u:=u);unfold sdL at C
    cases ho:slO s (bx.extract 0 16) t u with
    | true=>
      rw [ho] at C hv;have U:=fun w0 hb0=>unlI_of s bx t u w0 _ _ _ _ _ _ _ _ true hv h (C w0 hb0)
      by_cases hq:bx.extract 0 16++slM s (bx.extract 0 16) t u=bx
      · rw [decide_eq_true hq] at U⊢;exact unsI_of s bx t u _ _ _ _ _ _ _ true _ w rfl U
      · rw [decide_eq_false hq] at U⊢;exact unsI_of s bx t u _ _ _ _ _ _ _ false _ w ⟨_,_,rfl⟩ U
    | false=>
      rw [ho] at C hv;have U:=fun w0 hb0=>unlI_of s bx t u w0 _ _ _ _ _ _ _ _ false hv h (C w0 hb0)
      rw [Bool.false_and] at U⊢;exact unsI_of s bx t u _ _ _ _ _ _ _ false _ w ⟨_,_,rfl⟩ U
  · rw [decide_eq_false h,Bool.false_and,Bool.false_and,if_neg (by decide)];exact unsI_of s bx t u _ _ _ _ _ _ _ false _ w ⟨_,_,rfl⟩ (fun w0 hb0=>unlI_size s bx t u w0 h)
end
end Go.Proofs.YtjhbckngdclleaaGreatDoor
