import Derived.Test.YtjhbckngdclleaaGreatDoorMrg43
set_option linter.unusedVariables false
set_option maxRecDepth 100000
set_option maxHeartbeats 16000000
namespace Go.Proofs.YtjhbckngdclleaaGreatDoor
open Go.Proofs.Tryz Go.RowKit
open Go.Value (int)
open Go.IntKind (u64)
section
open M
theorem TabK.kept {w w':World}(h:TabK w)(hb:Bl w w'):TabK w':=fun i hi=>(hb.cell (p:=⟨6,i,none⟩) (World.block_lt_of_cell? w _ (h i hi))).trans (h i hi)
theorem expa (x i:ByteArray)(w:World)(hT:TabK w)(hx:x.size≤1048576)(hi:i.size≤1048576):
    Cr 66 #[.string x,.string i] w (.string (exB x i)):=by
  have EX:=expI_yes x i 32 w hT hx hi (by decide);have e2:strOfNums (expF (byt x) (byt i) 32)=exB x i:=rfl;simp only [e2] at EX;generalize exB x i=r at*;clear e2;go_enter func66,ntmps66;go_wp2_with fail;refine EX.mono ?_;rintro e w2 ⟨rfl,b2⟩;go_wp2;go_ret;exact⟨rfl,b2⟩
end
theorem Bk.sameS {W:World}{t:TypeId}{b:Nat}{cs:Array Value}(h:Bk W t b cs)(k:Nat){v:Value}(hv:cs[k]? =some v):W.setCell ⟨b,k,none⟩ v=W:=by
  have hh:W.heap[b]? =some (.cells cs t):=h
  have e:(W.setCell ⟨b,k,none⟩ v).heap=W.heap:=by
    unfold World.setCell;dsimp only;apply Array.ext (by simp);intro i h1 h2;rw [Array.getElem_modify];split
    · next hi=>
      subst hi;have e1:=(Array.getElem?_eq_some_iff.1 hh).2;rw [e1];obtain⟨hk,hk2⟩:=Array.getElem?_eq_some_iff.1 hv
      have e2:cs.setIfInBounds k v=cs:=by
        rw [Array.setIfInBounds_def,dif_pos hk,←hk2,Array.set_getElem_self]
      simp [e2]
    · rfl
  show {W with heap:=(W.setCell ⟨b,k,none⟩ v).heap}=W;rw [e]
theorem str_neS {s t:ByteArray}(h:s≠t):(s.toList==t.toList)=false:=by
  rw [beq_eq_false_iff_ne];intro e;apply h;rw [ByteArray.toList_eq,ByteArray.toList_eq] at e;cases s;cases t;exact congrArg ByteArray.mk (by simpa using e)
section
variable {W:World}{b:Nat}{t:TypeId}{cs:Array Value}
theorem bk_res3 {fn:Func}{p u v:Tmp}{d:TypeDesc}(h:fn.results=#[.cell p t,.tmp u,.tmp v])(tmps:Array Value)(hp:tmps.getD p undef= .pointer (some ⟨b,0,none⟩))(hc:Bk W t b cs)(hu:prog.underlying t=some d)(hd:d.isRow=true)(hi:(prog.info? t).map (·.size)=some cs.size):
    (results fn tmps).run prog W= .ok (.tuple #[.agg cs,tmps.getD u undef,tmps.getD v undef]) W:=by
  have hp':tmps[p]?.getD undef= .pointer (some ⟨b,0,none⟩):=by simpa using hp
  have hl:=run_loadVar_mid (P:=prog) W b 0 t cs.toList d hc.range hu hd (by rw [hi,Array.length_toList]);simp [results,h,hp',asAddr,hl]
end
section
open M
theorem cfxE (args:Array Value)(w:World):(callFunc 66 args).run prog w= .ok (.enter 66 args) w:=by kernel_rfl
theorem Y.sideS {S:List Nat}{W W':World}(h:G.Sides S W W'){t:TypeId}{b:Nat}{cs:Array Value}(hb:Bk W t b cs)(hn:b∉S):Bk W' t b cs:=(h.block b hb.lt hn).trans hb
section
variable {A:Act}{w:World}{dst:Option Tmp}{ty:TypeId}{ps:String}{af:Array Edge}{gd:Option (Nat×Bool)}{x y z:Operand}{b i:Nat}
theorem buZ:Does prog (Opr dst (.build 74 #[]) ty ps af gd) A w fun v' w'=>v'= .agg #[.string ⟨#[]⟩,int u64 0,int u64 0,.bool false,.string ⟨#[]⟩,int u64 0,.string ⟨#[]⟩]∧Bl w w':=dv (by generalize A.eval=ev at*;simp [execOp,go_sem])
theorem ldE {v:Value}{g:Nat}(h:w.cell? ⟨g,0,none⟩=some v):Does prog (Opr dst (.load 76 (.global g)) ty ps af gd) A w fun v' w'=>v'=v∧Bl w w':=by
  have hg:A.eval (.global g)= .pointer (some ⟨g,0,none⟩):=rfl;have h:(execOp A.eval (Opr dst (.load 76 (.global g)) ty ps af gd)).run prog w= .ok (.value v) w:=by generalize A.eval=ev at*;simp [execOp,hg,h,go_sem]
  exact does_value h ⟨rfl,Below.refl _ _⟩
theorem buF {s:ByteArray}{T:TypeId}{x':Value}(hx:A.eval x= .iface T x'):Does prog (Opr dst (.build 150 #[(0,.const (.string s)),(1,x)]) ty ps af gd) A w fun v' w'=>v'= .agg #[.string s,.iface T x']∧Bl w w':=by
  have hc:A.eval (.const (.string s))= .string s:=rfl;have h:(execOp A.eval (Opr dst (.build 150 #[(0,.const (.string s)),(1,x)]) ty ps af gd)).run prog w= .ok (.value (.agg #[.string s,.iface T x'])) w:=by generalize A.eval=ev at*;simp [execOp,hc,hx,go_sem]
  exact does_value h ⟨rfl,Below.refl _ _⟩
theorem miF {s:ByteArray}{v:Value}(hx:A.eval x= .agg #[.string s,v]):Does prog (Opr dst (.makeInterface 150 x) ty ps af gd) A w fun v' w'=>v'=flt s v∧Bl w w':=dv (by generalize A.eval=ev at*;simp [execOp,hx,flt,go_sem])
theorem buS {v0 v1 v2 v3 v4:Value}{k:Int}{s:ByteArray}(hx:A.eval x= .agg #[v0,v1,v2,v3,v4])(hy:A.eval y=int u64 k)(hz:A.eval z= .string s):Does prog (Opr dst (.build 74 #[(0,x),(1,y),(2,z)]) ty ps af gd) A w fun v' w'=>v'= .agg #[v0,v1,v2,v3,v4,int u64 k,.string s]∧Bl w w':=dv (by generalize A.eval=ev at*;simp [execOp,hx,hy,hz,go_sem])
end
theorem wth2 (t p s:ByteArray)(i:Nat)(w:World)(h:t.size≤100000)(hp:p.size≤65535)(hs:s.size≤65535)(hr:w.heap[i]? =some (.cells #[.iface 155 (.string p),.iface 156 (.string s)] 243)):
    Cr 105 #[.string t,.slice (some ⟨i,0,none⟩) 2 2] w (.string (t++p++sizB s)):=by
  have:=with_blk t [(.iface 155 (.string p),p),(.iface 156 (.string s),sizB s)] i 2 _ _ w hr rfl rfl (by omega) (by
    intro vs hvs;simp only [List.mem_cons,List.not_mem_nil,or_false] at hvs;rcases hvs with rfl|rfl
    · exact writP p
    · exact writZ s hs) (by
      show(t++p++sizB s).size≤_
      rw [ByteArray.size_append,ByteArray.size_append,sizB_size];omega)
  exact this
section
variable (s n:ByteArray)(t:Tri)(u:ByteArray)(a0 a2:Addr)(w:World)
theorem selI_bad (hs:So w a0 a2)(h:(decide (s.size=32)&&decide (n.size=16)&&nameB u)=false):
    Cr 47 #[.string s,.string n,.agg #[int u64 (t.1:Int),int u64 (t.2.1:Int),.bool t.2.2],.string u] w (.tuple #[.agg #[.string ⟨#[]⟩,int u64 0,int u64 0,.bool false,.string ⟨#[]⟩,int u64 0,.string ⟨#[]⟩],flt ⟨#[115,105,122,101,115]⟩ (sen a0)]):=by
  have h6:=Bk.new w 27 #[int u64 (t.1:Int),int u64 (t.2.1:Int),.bool t.2.2];have hB:=balc w (Obj.cells #[int u64 (t.1:Int),int u64 (t.2.1:Int),.bool t.2.2] 27);obtain⟨W1,hW1⟩:∃W,w.alloc (Obj.cells #[int u64 (t.1:Int),int u64 (t.2.1:Int),.bool t.2.2] 27)=W:=⟨_,rfl⟩;rw [hW1] at h6 hB;have h8:=Bk.new W1 74 #[.string ⟨#[]⟩,int u64 0,int u64 0,.bool false,.string ⟨#[]⟩,int u64 0,.string ⟨#[]⟩];have hlt:w.heap.size<W1.heap.size:=h6.lt;replace hB:=hB.alloc hB.size (Obj.cells #[.string ⟨#[]⟩,int u64 0,int u64 0,.bool false,.string ⟨#[]⟩,int u64 0,.string ⟨#[]⟩] 74);obtain⟨W2,hW2⟩:∃W,W1.alloc (Obj.cells #[.string ⟨#[]⟩,int u64 0,int u64 0,.bool false,.string ⟨#[]⟩,int u64 0,.string ⟨#[]⟩] 74)=W:=⟨_,rfl⟩;rw [hW2] at h8 hB;obtain⟨b8,hb8⟩:∃b,W1.heap.size=b:=⟨_,rfl⟩;have hl8:w.heap.size≤b8:=by omega
  rw [hb8] at h8;have hc0:W2.drew.cell? ⟨0,0,none⟩=some (sen a0):=(hs.keep hB).c0
  have hc0n:0∉ [b8]:=fun h=>by
    have:=World.block_lt_of_cell? w _ hs.c0;have:=List.mem_singleton.1 h;omega
  clear h6 hlt;by_cases q1:s.size=32
  · by_cases q2:n.size=16
    · have NM:=fun w=>nmI u w
      rw [decide_eq_true q1,decide_eq_true q2] at h;rw [show nameB u=false by simpa using h] at NM;clear h;go_enter func47,ntmps47;go_wp2_with fail;refine(NM _).mono ?_;rintro e w2 ⟨rfl,rfl⟩;go_wp2;clear hW1 hW2
      refine G.pool_list (W:=W2) [b8] [.val (.agg #[.string ⟨#[]⟩,int u64 0,int u64 0,.bool false,.string ⟨#[]⟩,int u64 0,.string ⟨#[]⟩]),
          .val (sen a0),
          .val (.agg #[.string ⟨#[115,105,122,101,115]⟩,sen a0]),
          .val (flt ⟨#[115,105,122,101,115]⟩ (sen a0)),
          .set (b8) (.cells #[.string ⟨#[]⟩,int u64 0,int u64 0,.bool false,.string ⟨#[]⟩,int u64 0,.string ⟨#[]⟩] 74) (.cells #[.string ⟨#[]⟩,int u64 0,int u64 0,.bool false,.string ⟨#[]⟩,int u64 0,.string ⟨#[]⟩] 74),
          .val (flt ⟨#[115,105,122,101,115]⟩ (sen a0))] [[],[],[32],[33],[8,31],[34]] (fun f=> [(some 31,.agg #[.string ⟨#[]⟩,int u64 0,int u64 0,.bool false,.string ⟨#[]⟩,int u64 0,.string ⟨#[]⟩]),(some 32,sen a0),(some 33,.agg #[.string ⟨#[115,105,122,101,115]⟩,sen a0]),(some 34,flt ⟨#[115,105,122,101,115]⟩ (sen a0)),(none,undef),(some 9,flt ⟨#[115,105,122,101,115]⟩ (sen a0))]) (by kernel_rfl) (by kernel_rfl) (by kernel_rfl) (by kernel_rfl) (fun _=>by kernel_rfl) (G.last_of [.cells #[.string ⟨#[]⟩,int u64 0,int u64 0,.bool false,.string ⟨#[]⟩,int u64 0,.string ⟨#[]⟩] 74] (fun F R hm=>by simp at hm) (fun ob ob' k hm=>by simp at hm) (fun b ob ob' hm=>by simp at hm;simp [hm])) (fun b ob ob' hm=>by simp at hm;obtain⟨rfl,rfl,-⟩:=hm;exact h8) ?_ ?_
      · intro ix hix
        match ix,hix with
        |0,_=>exact G.obv [] rfl rfl (fun A w _ hB=>buZ)
        |1,_=>exact G.obv [] rfl rfl (fun A w _ hB=>ldE (hB.cell hc0 hc0n))
        |2,_=>exact G.obv [(32,sen a0)] rfl rfl (fun A w ⟨e0,_⟩ hB=>buF e0)
        |3,_=>exact G.obv [(33,.agg #[.string ⟨#[115,105,122,101,115]⟩,sen a0])] rfl rfl (fun A w ⟨e0,_⟩ hB=>miF e0)
        |4,_=>exact G.ob_set (fun f=> [(8,.pointer (some ⟨b8,0,none⟩)),(31,.agg #[.string ⟨#[]⟩,int u64 0,int u64 0,.bool false,.string ⟨#[]⟩,int u64 0,.string ⟨#[]⟩])]) rfl rfl rfl (by simp) h8.lt (fun j ob1 ob2 h=>by (rcases j with _|_|_|_|_|_|j)<;>simp [G.kindOf] at h⊢ <;>omega) (fun _=>by kernel_rfl) (fun f A w ⟨e0,e1,_⟩ hh hr=>Y.puA e0 e1 hr rfl (by kernel_rfl) (by kernel_rfl))
        |5,_=>exact G.obv [(34,flt ⟨#[115,105,122,101,115]⟩ (sen a0))] rfl rfl (fun A w ⟨e0,_⟩ hB=>Y.assign e0)
        |ix+6,h=>exact absurd h (by simp)
      intro f W3 hS _ _ _ hset;have q8:Bk W3 74 b8 #[.string ⟨#[]⟩,int u64 0,int u64 0,.bool false,.string ⟨#[]⟩,int u64 0,.string ⟨#[]⟩]:=hset 4 _ _ _ rfl (by decide);have hB3:Bl w W3:=hS.under hB.drew (by intro b h;rw [List.mem_singleton.1 h];exact hl8) hB.size;clear hset hS;simp only [puts,List.foldl,Act.put,List.setIfInBounds_toArray,List.set_cons_zero,List.set_cons_succ];go_wp2;exact bodyPost_ret (v:= .tuple #[.agg #[.string ⟨#[]⟩,int u64 0,int u64 0,.bool false,.string ⟨#[]⟩,int u64 0,.string ⟨#[]⟩],flt ⟨#[115,105,122,101,115]⟩ (sen a0)]) (bk_res2 (fn:=Tryz.f47) (p:=8) (u:=9) results47 _ rfl q8 underlying74 rfl (by kernel_rfl)) rfl ⟨rfl,hB3⟩
    · have q1':(s.size:Int)=32:=by omega
      have q2': ¬ ((n.size:Int)=16):=by omega
      clear h;go_enter func47,ntmps47;go_wp2;clear hW1 hW2
      refine G.pool_list (W:=W2) [b8] [.val (.agg #[.string ⟨#[]⟩,int u64 0,int u64 0,.bool false,.string ⟨#[]⟩,int u64 0,.string ⟨#[]⟩]),
          .val (sen a0),
          .val (.agg #[.string ⟨#[115,105,122,101,115]⟩,sen a0]),
          .val (flt ⟨#[115,105,122,101,115]⟩ (sen a0)),
          .set (b8) (.cells #[.string ⟨#[]⟩,int u64 0,int u64 0,.bool false,.string ⟨#[]⟩,int u64 0,.string ⟨#[]⟩] 74) (.cells #[.string ⟨#[]⟩,int u64 0,int u64 0,.bool false,.string ⟨#[]⟩,int u64 0,.string ⟨#[]⟩] 74),
          .val (flt ⟨#[115,105,122,101,115]⟩ (sen a0))] [[],[],[32],[33],[8,31],[34]] (fun f=> [(some 31,.agg #[.string ⟨#[]⟩,int u64 0,int u64 0,.bool false,.string ⟨#[]⟩,int u64 0,.string ⟨#[]⟩]),(some 32,sen a0),(some 33,.agg #[.string ⟨#[115,105,122,101,115]⟩,sen a0]),(some 34,flt ⟨#[115,105,122,101,115]⟩ (sen a0)),(none,undef),(some 9,flt ⟨#[115,105,122,101,115]⟩ (sen a0))]) (by kernel_rfl) (by kernel_rfl) (by kernel_rfl) (by kernel_rfl) (fun _=>by kernel_rfl) (G.last_of [.cells #[.string ⟨#[]⟩,int u64 0,int u64 0,.bool false,.string ⟨#[]⟩,int u64 0,.string ⟨#[]⟩] 74] (fun F R hm=>by simp at hm) (fun ob ob' k hm=>by simp at hm) (fun b ob ob' hm=>by simp at hm;simp [hm])) (fun b ob ob' hm=>by simp at hm;obtain⟨rfl,rfl,-⟩:=hm;exact h8) ?_ ?_
      · intro ix hix
        match ix,hix with
        |0,_=>exact G.obv [] rfl rfl (fun A w _ hB=>buZ)
        |1,_=>exact G.obv [] rfl rfl (fun A w _ hB=>ldE (hB.cell hc0 hc0n))
        |2,_=>exact G.obv [(32,sen a0)] rfl rfl (fun A w ⟨e0,_⟩ hB=>buF e0)
        |3,_=>exact G.obv [(33,.agg #[.string ⟨#[115,105,122,101,115]⟩,sen a0])] rfl rfl (fun A w ⟨e0,_⟩ hB=>miF e0)
        |4,_=>exact G.ob_set (fun f=> [(8,.pointer (some ⟨b8,0,none⟩)),(31,.agg #[.string ⟨#[]⟩,int u64 0,int u64 0,.bool false,.string ⟨#[]⟩,int u64 0,.string ⟨#[]⟩])]) rfl rfl rfl (by simp) h8.lt (fun j ob1 ob2 h=>by (rcases j with _|_|_|_|_|_|j)<;>simp [G.kindOf] at h⊢ <;>omega) (fun _=>by kernel_rfl) (fun f A w ⟨e0,e1,_⟩ hh hr=>Y.puA e0 e1 hr rfl (by kernel_rfl) (by kernel_rfl))
        |5,_=>exact G.obv [(34,flt ⟨#[115,105,122,101,115]⟩ (sen a0))] rfl rfl (fun A w ⟨e0,_⟩ hB=>Y.assign e0)
        |ix+6,h=>exact absurd h (by simp)
      intro f W3 hS _ _ _ hset;have q8:Bk W3 74 b8 #[.string ⟨#[]⟩,int u64 0,int u64 0,.bool false,.string ⟨#[]⟩,int u64 0,.string ⟨#[]⟩]:=hset 4 _ _ _ rfl (by decide);have hB3:Bl w W3:=hS.under hB.drew (by intro b h;rw [List.mem_singleton.1 h];exact hl8) hB.size;clear hset hS;simp only [puts,List.foldl,Act.put,List.setIfInBounds_toArray,List.set_cons_zero,List.set_cons_succ];go_wp2;exact bodyPost_ret (v:= .tuple #[.agg #[.string ⟨#[]⟩,int u64 0,int u64 0,.bool false,.string ⟨#[]⟩,int u64 0,.string ⟨#[]⟩],flt ⟨#[115,105,122,101,115]⟩ (sen a0)]) (bk_res2 (fn:=Tryz.f47) (p:=8) (u:=9) results47 _ rfl q8 underlying74 rfl (by kernel_rfl)) rfl ⟨rfl,hB3⟩
  · have q1': ¬ ((s.size:Int)=32):=by omega
    clear h;go_enter func47,ntmps47;go_wp2;clear hW1 hW2
    refine G.pool_list (W:=W2) [b8] [.val (.agg #[.string ⟨#[]⟩,int u64 0,int u64 0,.bool false,.string ⟨#[]⟩,int u64 0,.string ⟨#[]⟩]),
        .val (sen a0),
        .val (.agg #[.string ⟨#[115,105,122,101,115]⟩,sen a0]),
        .val (flt ⟨#[115,105,122,101,115]⟩ (sen a0)),
        .set (b8) (.cells #[.string ⟨#[]⟩,int u64 0,int u64 0,.bool false,.string ⟨#[]⟩,int u64 0,.string ⟨#[]⟩] 74) (.cells #[.string ⟨#[]⟩,int u64 0,int u64 0,.bool false,.string ⟨#[]⟩,int u64 0,.string ⟨#[]⟩] 74),
        .val (flt ⟨#[115,105,122,101,115]⟩ (sen a0))] [[],[],[32],[33],[8,31],[34]] (fun f=> [(some 31,.agg #[.string ⟨#[]⟩,int u64 0,int u64 0,.bool false,.string ⟨#[]⟩,int u64 0,.string ⟨#[]⟩]),(some 32,sen a0),(some 33,.agg #[.string ⟨#[115,105,122,101,115]⟩,sen a0]),(some 34,flt ⟨#[115,105,122,101,115]⟩ (sen a0)),(none,undef),(some 9,flt ⟨#[115,105,122,101,115]⟩ (sen a0))]) (by kernel_rfl) (by kernel_rfl) (by kernel_rfl) (by kernel_rfl) (fun _=>by kernel_rfl) (G.last_of [.cells #[.string ⟨#[]⟩,int u64 0,int u64 0,.bool false,.string ⟨#[]⟩,int u64 0,.string ⟨#[]⟩] 74] (fun F R hm=>by simp at hm) (fun ob ob' k hm=>by simp at hm) (fun b ob ob' hm=>by simp at hm;simp [hm])) (fun b ob ob' hm=>by simp at hm;obtain⟨rfl,rfl,-⟩:=hm;exact h8) ?_ ?_
    · intro ix hix
      match ix,hix with
      |0,_=>exact G.obv [] rfl rfl (fun A w _ hB=>buZ)
      |1,_=>exact G.obv [] rfl rfl (fun A w _ hB=>ldE (hB.cell hc0 hc0n))
      |2,_=>exact G.obv [(32,sen a0)] rfl rfl (fun A w ⟨e0,_⟩ hB=>buF e0)
      |3,_=>exact G.obv [(33,.agg #[.string ⟨#[115,105,122,101,115]⟩,sen a0])] rfl rfl (fun A w ⟨e0,_⟩ hB=>miF e0)
      |4,_=>exact G.ob_set (fun f=> [(8,.pointer (some ⟨b8,0,none⟩)),(31,.agg #[.string ⟨#[]⟩,int u64 0,int u64 0,.bool false,.string ⟨#[]⟩,int u64 0,.string ⟨#[]⟩])]) rfl rfl rfl (by simp) h8.lt (fun j ob1 ob2 h=>by (rcases j with _|_|_|_|_|_|j)<;>simp [G.kindOf] at h⊢ <;>omega) (fun _=>by kernel_rfl) (fun f A w ⟨e0,e1,_⟩ hh hr=>Y.puA e0 e1 hr rfl (by kernel_rfl) (by kernel_rfl))
      |5,_=>exact G.obv [(34,flt ⟨#[115,105,122,101,115]⟩ (sen a0))] rfl rfl (fun A w ⟨e0,_⟩ hB=>Y.assign e0)
      |ix+6,h=>exact absurd h (by simp)
    intro f W3 hS _ _ _ hset;have q8:Bk W3 74 b8 #[.string ⟨#[]⟩,int u64 0,int u64 0,.bool false,.string ⟨#[]⟩,int u64 0,.string ⟨#[]⟩]:=hset 4 _ _ _ rfl (by decide);have hB3:Bl w W3:=hS.under hB.drew (by intro b h;rw [List.mem_singleton.1 h];exact hl8) hB.size;clear hset hS;simp only [puts,List.foldl,Act.put,List.setIfInBounds_toArray,List.set_cons_zero,List.set_cons_succ];go_wp2;exact bodyPost_ret (v:= .tuple #[.agg #[.string ⟨#[]⟩,int u64 0,int u64 0,.bool false,.string ⟨#[]⟩,int u64 0,.string ⟨#[]⟩],flt ⟨#[115,105,122,101,115]⟩ (sen a0)]) (bk_res2 (fn:=Tryz.f47) (p:=8) (u:=9) results47 _ rfl q8 underlying74 rfl (by kernel_rfl)) rfl ⟨rfl,hB3⟩
theorem selI_el (hs:So w a0 a2)(q1:s.size=32)(q2:n.size=16)(q4:nameB u=true)(q3:elT t=false):
    Cr 47 #[.string s,.string n,.agg #[int u64 (t.1:Int),int u64 (t.2.1:Int),.bool t.2.2],.string u] w (.tuple #[.agg #[.string ⟨#[]⟩,int u64 0,int u64 0,.bool false,.string ⟨#[]⟩,int u64 0,.string ⟨#[]⟩],flt ⟨#[115,101,114,118,101,114]⟩ (sen a0)]):=by
  have h6:=Bk.new w 27 #[int u64 (t.1:Int),int u64 (t.2.1:Int),.bool t.2.2];have hB:=balc w (Obj.cells #[int u64 (t.1:Int),int u64 (t.2.1:Int),.bool t.2.2] 27);obtain⟨W1,hW1⟩:∃W,w.alloc (Obj.cells #[int u64 (t.1:Int),int u64 (t.2.1:Int),.bool t.2.2] 27)=W:=⟨_,rfl⟩;rw [hW1] at h6 hB;have h8:=Bk.new W1 74 #[.string ⟨#[]⟩,int u64 0,int u64 0,.bool false,.string ⟨#[]⟩,int u64 0,.string ⟨#[]⟩];have hlt:w.heap.size<W1.heap.size:=h6.lt;replace h6:=h6.alloc (Obj.cells #[.string ⟨#[]⟩,int u64 0,int u64 0,.bool false,.string ⟨#[]⟩,int u64 0,.string ⟨#[]⟩] 74);replace hB:=hB.alloc hB.size (Obj.cells #[.string ⟨#[]⟩,int u64 0,int u64 0,.bool false,.string ⟨#[]⟩,int u64 0,.string ⟨#[]⟩] 74);obtain⟨W2,hW2⟩:∃W,W1.alloc (Obj.cells #[.string ⟨#[]⟩,int u64 0,int u64 0,.bool false,.string ⟨#[]⟩,int u64 0,.string ⟨#[]⟩] 74)=W:=⟨_,rfl⟩;rw [hW2] at h8 h6 hB;obtain⟨b8,hb8⟩:∃b,W1.heap.size=b:=⟨_,rfl⟩;obtain⟨b6,hb6⟩:∃b,w.heap.size=b:=⟨_,rfl⟩;have hl8:w.heap.size≤b8:=by omega
  rw [hb8] at h8;rw [hb6] at h6;clear hlt;have NM:=fun w=>nmI u w
  rw [q4] at NM;have hu:1≤u.size∧u.size≤32:=of_decide_eq_true q4;have p0:W2.cell? ⟨b6,0,none⟩=some (int u64 (t.1:Int)):=h6.cell (k:=0) rfl;have p1:W2.cell? ⟨b6,1,none⟩=some (int u64 (t.2.1:Int)):=h6.cell (k:=1) rfl;have p2:W2.cell? ⟨b6,2,none⟩=some (.bool t.2.2):=h6.cell (k:=2) rfl;have EL:=fun w hs=>eleO_any t a0 a2 w hs
  rw [q3] at EL;simp only [Bool.false_eq_true,if_false,sen] at EL;go_enter func47,ntmps47;go_wp2_with fail;refine(NM _).mono ?_;rintro e w0 ⟨rfl,rfl⟩;go_wp2_with fail;refine(EL _ (hs.keep hB)).mono ?_;rintro e w0 ⟨rfl,d1⟩;replace h8:=h8.keep d1;replace hB:=hB.tr d1;clear d1 p0 p1 p2 hW1 hW2 EL NM h6;replace h8:=h8.alloc (Obj.cells #[int u64 0,int u64 0,.bool true] 101);replace hB:=hB.alloc hB.size (Obj.cells #[int u64 0,int u64 0,.bool true] 101);obtain⟨w1,hw1⟩:∃W,w0.alloc (Obj.cells #[int u64 0,int u64 0,.bool true] 101)=W:=⟨_,rfl⟩;rw [hw1] at h8 hB;have cz0:w1.cell? ⟨b8,0,none⟩=some (.string ⟨#[]⟩):=h8.cell (k:=0) rfl;have fz0:=h8.frz 0;have ez0:w1.setCell ⟨b8,0,none⟩ (.string ⟨#[]⟩)=w1:=h8.sameS 0 rfl;have cz1:w1.cell? ⟨b8,1,none⟩=some (int u64 0):=h8.cell (k:=1) rfl;have fz1:=h8.frz 1;have ez1:w1.setCell ⟨b8,1,none⟩ (int u64 0)=w1:=h8.sameS 1 rfl;have cz2:w1.cell? ⟨b8,2,none⟩=some (int u64 0):=h8.cell (k:=2) rfl;have fz2:=h8.frz 2;have ez2:w1.setCell ⟨b8,2,none⟩ (int u64 0)=w1:=h8.sameS 2 rfl;have cz3:w1.cell? ⟨b8,3,none⟩=some (.bool false):=h8.cell (k:=3) rfl;have fz3:=h8.frz 3;have ez3:w1.setCell ⟨b8,3,none⟩ (.bool false)=w1:=h8.sameS 3 rfl;have cz4:w1.cell? ⟨b8,4,none⟩=some (.string ⟨#[]⟩):=h8.cell (k:=4) rfl;have fz4:=h8.frz 4;have ez4:w1.setCell ⟨b8,4,none⟩ (.string ⟨#[]⟩)=w1:=h8.sameS 4 rfl;have cz5:w1.cell? ⟨b8,5,none⟩=some (int u64 0):=h8.cell (k:=5) rfl;have fz5:=h8.frz 5;have ez5:w1.setCell ⟨b8,5,none⟩ (int u64 0)=w1:=h8.sameS 5 rfl;have cz6:w1.cell? ⟨b8,6,none⟩=some (.string ⟨#[]⟩):=h8.cell (k:=6) rfl;have fz6:=h8.frz 6;have ez6:w1.setCell ⟨b8,6,none⟩ (.string ⟨#[]⟩)=w1:=h8.sameS 6 rfl;go_wp2
  all_goals
    exact bodyPost_ret (v:= .tuple #[.agg #[.string ⟨#[]⟩,int u64 0,int u64 0,.bool false,.string ⟨#[]⟩,int u64 0,.string ⟨#[]⟩],.iface 150 (.agg #[.string ⟨#[115,101,114,118,101,114]⟩,.iface 336 (.pointer (some a0))])]) (bk_res2 (fn:=Tryz.f47) (p:=8) (u:=9) results47 _ rfl h8 underlying74 rfl (by kernel_rfl)) rfl ⟨rfl,hB⟩
theorem selI_key (hs:So w a0 a2)(q1:s.size=32)(q2:n.size=16)(q4:nameB u=true)(hT:TabK w)(q3:elT t=true)(hk:decide ((prK s n).2=0)=false):
    Cr 47 #[.string s,.string n,.agg #[int u64 (t.1:Int),int u64 (t.2.1:Int),.bool t.2.2],.string u] w (.tuple #[.agg #[.string ⟨#[]⟩,int u64 0,int u64 0,.bool false,.string ⟨#[]⟩,int u64 0,.string ⟨#[]⟩],flt ⟨#[112,114,105,118,97,116,101,32,107,101,121]⟩ (flt ⟨#[107,101,121]⟩ (sen a2))]):=by
  have h6:=Bk.new w 27 #[int u64 (t.1:Int),int u64 (t.2.1:Int),.bool t.2.2];have hB:=balc w (Obj.cells #[int u64 (t.1:Int),int u64 (t.2.1:Int),.bool t.2.2] 27);obtain⟨W1,hW1⟩:∃W,w.alloc (Obj.cells #[int u64 (t.1:Int),int u64 (t.2.1:Int),.bool t.2.2] 27)=W:=⟨_,rfl⟩;rw [hW1] at h6 hB;have h8:=Bk.new W1 74 #[.string ⟨#[]⟩,int u64 0,int u64 0,.bool false,.string ⟨#[]⟩,int u64 0,.string ⟨#[]⟩];have hlt:w.heap.size<W1.heap.size:=h6.lt;replace h6:=h6.alloc (Obj.cells #[.string ⟨#[]⟩,int u64 0,int u64 0,.bool false,.string ⟨#[]⟩,int u64 0,.string ⟨#[]⟩] 74);replace hB:=hB.alloc hB.size (Obj.cells #[.string ⟨#[]⟩,int u64 0,int u64 0,.bool false,.string ⟨#[]⟩,int u64 0,.string ⟨#[]⟩] 74);obtain⟨W2,hW2⟩:∃W,W1.alloc (Obj.cells #[.string ⟨#[]⟩,int u64 0,int u64 0,.bool false,.string ⟨#[]⟩,int u64 0,.string ⟨#[]⟩] 74)=W:=⟨_,rfl⟩;rw [hW2] at h8 h6 hB;obtain⟨b8,hb8⟩:∃b,W1.heap.size=b:=⟨_,rfl⟩;obtain⟨b6,hb6⟩:∃b,w.heap.size=b:=⟨_,rfl⟩;have hl8:w.heap.size≤b8:=by omega
  rw [hb8] at h8;rw [hb6] at h6;clear hlt;have NM:=fun w=>nmI u w
  rw [q4] at NM;have hu:1≤u.size∧u.size≤32:=of_decide_eq_true q4;have p0:W2.cell? ⟨b6,0,none⟩=some (int u64 (t.1:Int)):=h6.cell (k:=0) rfl;have p1:W2.cell? ⟨b6,1,none⟩=some (int u64 (t.2.1:Int)):=h6.cell (k:=1) rfl;have p2:W2.cell? ⟨b6,2,none⟩=some (.bool t.2.2):=h6.cell (k:=2) rfl;have EL:=fun w hs=>eleO_any t a0 a2 w hs
  rw [q3] at EL;simp only [if_true] at EL;have XS:∀w,TabK w→Cr 63 #[.string ⟨#[]⟩,.string s] w (.string (slX s)):=fun w hT=>extractI_any _ _ w hT (by decide) (by omega)
  have hxz:=slX_size s;have P1:∀w,TabK w→Cr 66 #[.string (slX s),.string (n++⟨#[80,114,105,118,97,116,101]⟩)] w (.string (prB s n wPrv)):=fun w hT=>expa (slX s) (n++wPrv) w hT (by omega) (by rw [ByteArray.size_append,q2];decide)
  have DK:∀w,TabK w→So w a0 a2→Cr 57 #[.int .i64 0,.string (prB s n wPrv),.string ⟨#[67,108,105,101,110,116]⟩] w (.tuple #[int u64 ((prK s n).1:Nat),if (prK s n).2=0 then .nilIface else flt ⟨#[107,101,121]⟩ (sen a2)]):=fun w hT hs=>by
    rw [prK_eq];exact drvI 0 (prB s n wPrv) wCli a0 a2 w hT hs ⟨by decide,by decide⟩ (prB_size _ _ _) (by decide)
  have hc1: ¬ (9223372036854775807<n.size+(⟨#[80,114,105,118,97,116,101]⟩:ByteArray).size):=by rw [q2];decide
  have hk0: ¬ (prK s n).2=0:=by simpa using hk
  simp only [hk0,if_false,flt,sen] at DK;clear hk hk0;generalize ((prK s n).1:Nat)=k at*;generalize px (asT t)=ex at*;generalize py (asT t)=ey at*;generalize pb (asT t)=eb at*;generalize prB s n wPrv=PR at*;generalize slX s=X0 at*;go_enter func47,ntmps47;go_wp2_with fail;refine(NM _).mono ?_;rintro e w0 ⟨rfl,rfl⟩;go_wp2_with fail;refine(EL _ (hs.keep hB)).mono ?_;rintro e w0 ⟨rfl,d1⟩;replace h8:=h8.keep d1;replace h6:=h6.keep d1;replace hB:=hB.tr d1;clear d1 p0 p1 p2 hW1 hW2 EL NM;replace h8:=h8.alloc (Obj.cells #[int u64 ex,int u64 ey,.bool eb] 101);replace h6:=h6.alloc (Obj.cells #[int u64 ex,int u64 ey,.bool eb] 101);replace hB:=hB.alloc hB.size (Obj.cells #[int u64 ex,int u64 ey,.bool eb] 101);obtain⟨w1,hw1⟩:∃W,w0.alloc (Obj.cells #[int u64 ex,int u64 ey,.bool eb] 101)=W:=⟨_,rfl⟩;rw [hw1] at h8 h6 hB;go_wp2_with fail;refine(XS _ (hT.kept hB)).mono ?_;rintro e w2 ⟨rfl,d1⟩;replace h8:=h8.keep d1;replace hB:=hB.tr d1;replace h6:=h6.keep d1;clear d1;clear hw1;go_wp2_with fail;refine(P1 _ (hT.kept hB)).mono ?_;rintro e w2b ⟨rfl,d1⟩;replace h8:=h8.keep d1;replace hB:=hB.tr d1;replace h6:=h6.keep d1;clear d1;go_wp2_with fail;refine(DK _ (hT.kept hB) (hs.keep hB)).mono ?_;rintro e w3 ⟨rfl,d1⟩;replace h8:=h8.keep d1;replace hB:=hB.tr d1;replace h6:=h6.keep d1;clear d1;clear XS P1 DK;have cz0:w3.cell? ⟨b8,0,none⟩=some (.string ⟨#[]⟩):=h8.cell (k:=0) rfl;have fz0:=h8.frz 0;have ez0:w3.setCell ⟨b8,0,none⟩ (.string ⟨#[]⟩)=w3:=h8.sameS 0 rfl;have cz1:w3.cell? ⟨b8,1,none⟩=some (int u64 0):=h8.cell (k:=1) rfl;have fz1:=h8.frz 1;have ez1:w3.setCell ⟨b8,1,none⟩ (int u64 0)=w3:=h8.sameS 1 rfl;have cz2:w3.cell? ⟨b8,2,none⟩=some (int u64 0):=h8.cell (k:=2) rfl;have fz2:=h8.frz 2;have ez2:w3.setCell ⟨b8,2,none⟩ (int u64 0)=w3:=h8.sameS 2 rfl;have cz3:w3.cell? ⟨b8,3,none⟩=some (.bool false):=h8.cell (k:=3) rfl;have fz3:=h8.frz 3;have ez3:w3.setCell ⟨b8,3,none⟩ (.bool false)=w3:=h8.sameS 3 rfl;have cz4:w3.cell? ⟨b8,4,none⟩=some (.string ⟨#[]⟩):=h8.cell (k:=4) rfl;have fz4:=h8.frz 4;have ez4:w3.setCell ⟨b8,4,none⟩ (.string ⟨#[]⟩)=w3:=h8.sameS 4 rfl;have cz5:w3.cell? ⟨b8,5,none⟩=some (int u64 0):=h8.cell (k:=5) rfl;have fz5:=h8.frz 5;have ez5:w3.setCell ⟨b8,5,none⟩ (int u64 0)=w3:=h8.sameS 5 rfl;have cz6:w3.cell? ⟨b8,6,none⟩=some (.string ⟨#[]⟩):=h8.cell (k:=6) rfl;have fz6:=h8.frz 6;have ez6:w3.setCell ⟨b8,6,none⟩ (.string ⟨#[]⟩)=w3:=h8.sameS 6 rfl;go_wp2
  all_goals
    exact bodyPost_ret (v:= .tuple #[.agg #[.string ⟨#[]⟩,int u64 0,int u64 0,.bool false,.string ⟨#[]⟩,int u64 0,.string ⟨#[]⟩],.iface 150 (.agg #[.string ⟨#[112,114,105,118,97,116,101,32,107,101,121]⟩,.iface 150 (.agg #[.string ⟨#[107,101,121]⟩,.iface 336 (.pointer (some a2))])])]) (bk_res2 (fn:=Tryz.f47) (p:=8) (u:=9) results47 _ rfl h8 underlying74 rfl (by kernel_rfl)) rfl ⟨rfl,hB⟩
theorem selI_yes (hs:So w a0 a2)(q1:s.size=32)(q2:n.size=16)(q4:nameB u=true)(hT:TabK w)(q3:elT t=true)(hk:decide ((prK s n).2=0)=true):
    Cr 47 #[.string s,.string n,.agg #[int u64 (t.1:Int),int u64 (t.2.1:Int),.bool t.2.2],.string u] w (.tuple #[.agg #[.string u,int u64 (px (slP s n)),int u64 (py (slP s n)),.bool (pb (slP s n)),.string (n++slM s n t u),int u64 ((prK s n).1:Nat),.string (prB s n wExp)],.nilIface]):=by
  have h6:=Bk.new w 27 #[int u64 (t.1:Int),int u64 (t.2.1:Int),.bool t.2.2];have hB:=balc w (Obj.cells #[int u64 (t.1:Int),int u64 (t.2.1:Int),.bool t.2.2] 27);obtain⟨W1,hW1⟩:∃W,w.alloc (Obj.cells #[int u64 (t.1:Int),int u64 (t.2.1:Int),.bool t.2.2] 27)=W:=⟨_,rfl⟩;rw [hW1] at h6 hB;have h8:=Bk.new W1 74 #[.string ⟨#[]⟩,int u64 0,int u64 0,.bool false,.string ⟨#[]⟩,int u64 0,.string ⟨#[]⟩];have hlt:w.heap.size<W1.heap.size:=h6.lt;replace h6:=h6.alloc (Obj.cells #[.string ⟨#[]⟩,int u64 0,int u64 0,.bool false,.string ⟨#[]⟩,int u64 0,.string ⟨#[]⟩] 74);replace hB:=hB.alloc hB.size (Obj.cells #[.string ⟨#[]⟩,int u64 0,int u64 0,.bool false,.string ⟨#[]⟩,int u64 0,.string ⟨#[]⟩] 74);obtain⟨W2,hW2⟩:∃W,W1.alloc (Obj.cells #[.string ⟨#[]⟩,int u64 0,int u64 0,.bool false,.string ⟨#[]⟩,int u64 0,.string ⟨#[]⟩] 74)=W:=⟨_,rfl⟩;rw [hW2] at h8 h6 hB;obtain⟨b8,hb8⟩:∃b,W1.heap.size=b:=⟨_,rfl⟩;obtain⟨b6,hb6⟩:∃b,w.heap.size=b:=⟨_,rfl⟩;have hl8:w.heap.size≤b8:=by omega
  rw [hb8] at h8;rw [hb6] at h6;clear hlt;have NM:=fun w=>nmI u w
  rw [q4] at NM;have hu:1≤u.size∧u.size≤32:=of_decide_eq_true q4;have p0:W2.cell? ⟨b6,0,none⟩=some (int u64 (t.1:Int)):=h6.cell (k:=0) rfl;have p1:W2.cell? ⟨b6,1,none⟩=some (int u64 (t.2.1:Int)):=h6.cell (k:=1) rfl;have p2:W2.cell? ⟨b6,2,none⟩=some (.bool t.2.2):=h6.cell (k:=2) rfl;have EL:=fun w hs=>eleO_any t a0 a2 w hs
  rw [q3] at EL;simp only [if_true] at EL;have XS:∀w,TabK w→Cr 63 #[.string ⟨#[]⟩,.string s] w (.string (slX s)):=fun w hT=>extractI_any _ _ w hT (by decide) (by omega)
  have hxz:=slX_size s;have P1:∀w,TabK w→Cr 66 #[.string (slX s),.string (n++⟨#[80,114,105,118,97,116,101]⟩)] w (.string (prB s n wPrv)):=fun w hT=>expa (slX s) (n++wPrv) w hT (by omega) (by rw [ByteArray.size_append,q2];decide)
  have DK:∀w,TabK w→So w a0 a2→Cr 57 #[.int .i64 0,.string (prB s n wPrv),.string ⟨#[67,108,105,101,110,116]⟩] w (.tuple #[int u64 ((prK s n).1:Nat),if (prK s n).2=0 then .nilIface else flt ⟨#[107,101,121]⟩ (sen a2)]):=fun w hT hs=>by
    rw [prK_eq];exact drvI 0 (prB s n wPrv) wCli a0 a2 w hT hs ⟨by decide,by decide⟩ (prB_size _ _ _) (by decide)
  have hc1: ¬ (9223372036854775807<n.size+(⟨#[80,114,105,118,97,116,101]⟩:ByteArray).size):=by rw [q2];decide
  have hk0:(prK s n).2=0:=of_decide_eq_true hk;simp only [hk0,if_true] at DK;clear hk hk0;have PP:∀w,Cr 64 #[.agg #[int u64 (t.1:Int),int u64 (t.2.1:Int),.bool t.2.2]] w (.string (pB (asT t))):=fun w=>putI_pt t.1 t.2.1 t.2.2 w
  have WT:∀(i:Nat) (w:World),Bk w 243 i #[.iface 155 (.string (pB (asT t))),.iface 156 (.string u)]→Cr 105 #[.string n,.slice (some ⟨i,0,none⟩) 2 2] w (.string (n++pB (asT t)++sizB u)):=fun i w hr=>wth2 n (pB (asT t)) u i w (by omega) (by rw [pB_size];decide) (by omega) hr
  have P2:∀w,TabK w→Cr 66 #[.string (slX s),.string (n++⟨#[65,117,116,104]⟩)] w (.string (prB s n wAut)):=fun w hT=>expa (slX s) (n++wAut) w hT (by omega) (by rw [ByteArray.size_append,q2];decide)
  have HM:∀w,TabK w→Cr 106 #[.string (prB s n wAut),.string (n++pB (asT t)++sizB u)] w (.string (slM s n t u)):=fun w hT=>hmacI_any _ _ w hT (by rw [prB_size];decide) (by rw [ByteArray.size_append,ByteArray.size_append,pB_size,sizB_size];omega)
  have PX:∀w,TabK w→Cr 66 #[.string (slX s),.string (n++⟨#[69,120,112,111,114,116]⟩)] w (.string (prB s n wExp)):=fun w hT=>expa (slX s) (n++wExp) w hT (by omega) (by rw [ByteArray.size_append,q2];decide)
  have BS:∀w,Cr 21 #[] w (.agg #[int u64 ((1:Nat):Int),int u64 ((509478702933351334:Nat):Int),.bool false]):=fun w=>bsI w
  have TM:=fun w=>timI_pt (prK s n).1 1 509478702933351334 false w (prK_lt s n)
  rw [asG] at TM;rw [show nt (prK s n).1 gG=slP s n from rfl,ptW_eq] at TM;have hzM:=slM_size s n t u;have hc2: ¬ (9223372036854775807<n.size+(⟨#[65,117,116,104]⟩:ByteArray).size):=by rw [q2];decide
  have hce:n.size+(⟨#[69,120,112,111,114,116]⟩:ByteArray).size≤9223372036854775807:=by rw [q2];decide
  have hc3: ¬ (9223372036854775807<n.size+(slM s n t u).size):=by omega
  generalize n++pB (asT t)++sizB u=TX at*;generalize pB (asT t)=PB at*;generalize px (slP s n)=xx at*;generalize py (slP s n)=yy at*;generalize pb (slP s n)=zz at*;generalize prB s n wExp=EX at*;generalize prB s n wAut=AU at*;generalize slM s n t u=MM at*;generalize ((prK s n).1:Nat)=k at*;generalize px (asT t)=ex at*;generalize py (asT t)=ey at*;generalize pb (asT t)=eb at*;generalize prB s n wPrv=PR at*;generalize slX s=X0 at*;go_enter func47,ntmps47;go_wp2_with fail;refine(NM _).mono ?_;rintro e w0 ⟨rfl,rfl⟩;go_wp2_with fail;refine(EL _ (hs.keep hB)).mono ?_;rintro e w0 ⟨rfl,d1⟩;replace h8:=h8.keep d1;replace h6:=h6.keep d1;replace hB:=hB.tr d1;clear d1 p0 p1 p2 hW1 hW2 EL NM;replace h8:=h8.alloc (Obj.cells #[int u64 ex,int u64 ey,.bool eb] 101);replace h6:=h6.alloc (Obj.cells #[int u64 ex,int u64 ey,.bool eb] 101);replace hB:=hB.alloc hB.size (Obj.cells #[int u64 ex,int u64 ey,.bool eb] 101);obtain⟨w1,hw1⟩:∃W,w0.alloc (Obj.cells #[int u64 ex,int u64 ey,.bool eb] 101)=W:=⟨_,rfl⟩;rw [hw1] at h8 h6 hB;go_wp2_with fail;refine(XS _ (hT.kept hB)).mono ?_;rintro e w2 ⟨rfl,d1⟩;replace h8:=h8.keep d1;replace hB:=hB.tr d1;replace h6:=h6.keep d1;clear d1;clear hw1;go_wp2_with fail;refine(P1 _ (hT.kept hB)).mono ?_;rintro e w2b ⟨rfl,d1⟩;replace h8:=h8.keep d1;replace hB:=hB.tr d1;replace h6:=h6.keep d1;clear d1;go_wp2_with fail;refine(DK _ (hT.kept hB) (hs.keep hB)).mono ?_;rintro e w3 ⟨rfl,d1⟩;replace h8:=h8.keep d1;replace hB:=hB.tr d1;replace h6:=h6.keep d1;clear d1;clear XS P1 DK;have p0:w3.cell? ⟨b6,0,none⟩=some (int u64 (t.1:Int)):=h6.cell (k:=0) rfl;have p1:w3.cell? ⟨b6,1,none⟩=some (int u64 (t.2.1:Int)):=h6.cell (k:=1) rfl;have p2:w3.cell? ⟨b6,2,none⟩=some (.bool t.2.2):=h6.cell (k:=2) rfl;go_wp2_with fail;refine(PP _).mono ?_;rintro e w4 ⟨rfl,d1⟩;replace h8:=h8.keep d1;replace hB:=hB.tr d1;clear d1;clear PP p0 p1 p2 h6;have hg:=Bk.new w4 243 #[.iface 155 (.string PB),.iface 156 (.string u)];replace h8:=h8.alloc (Obj.cells #[.iface 155 (.string PB),.iface 156 (.string u)] 243);replace hB:=hB.alloc hB.size (Obj.cells #[.iface 155 (.string PB),.iface 156 (.string u)] 243);obtain⟨w5,hw5⟩:∃W,w4.alloc (Obj.cells #[.iface 155 (.string PB),.iface 156 (.string u)] 243)=W:=⟨_,rfl⟩;rw [hw5] at h8 hB hg;go_wp2_with fail;refine(WT _ _ hg).mono ?_;rintro e w6 ⟨rfl,d1⟩;replace h8:=h8.keep d1;replace hB:=hB.tr d1;clear d1;clear hw5 hg WT;go_wp2_with fail;refine(P2 _ (hT.kept hB)).mono ?_;rintro e w7 ⟨rfl,d1⟩;replace h8:=h8.keep d1;replace hB:=hB.tr d1;clear d1;go_wp2_with fail;refine(HM _ (hT.kept hB)).mono ?_;rintro e w8 ⟨rfl,d1⟩;replace h8:=h8.keep d1;replace hB:=hB.tr d1;clear d1;go_wp2_with fail;refine(BS _).mono ?_;rintro e w8b ⟨rfl,d1⟩;replace h8:=h8.keep d1;replace hB:=hB.tr d1;clear d1;go_wp2_with fail;refine(TM _).mono ?_;rintro e w8c ⟨rfl,d1⟩;replace h8:=h8.keep d1;replace hB:=hB.tr d1;clear d1;clear P2 HM BS TM;have h17:=Bk.new w8c 31 #[.string u,int u64 xx,int u64 yy,.bool zz,.string (n++MM)];have n17':b8<w8c.heap.size:=h8.lt;replace h8:=h8.alloc (Obj.cells #[.string u,int u64 xx,int u64 yy,.bool zz,.string (n++MM)] 31);replace hB:=hB.alloc hB.size (Obj.cells #[.string u,int u64 xx,int u64 yy,.bool zz,.string (n++MM)] 31);obtain⟨w9,hw9⟩:∃W,w8c.alloc (Obj.cells #[.string u,int u64 xx,int u64 yy,.bool zz,.string (n++MM)] 31)=W:=⟨_,rfl⟩;rw [hw9] at h17 h8 hB;obtain⟨b17,hb17⟩:∃b,w8c.heap.size=b:=⟨_,rfl⟩;rw [hb17] at h17;have n17:b17∉ [b8]:=fun h=>by have:=List.mem_singleton.1 h;omega
  have hTB:∀w',G.Sides [b8] w9.drew w'→TabK w':=fun w' hB' i hi=>hB'.cell ((hT.kept hB) i hi) (fun h=>by
    have:=World.block_lt_of_cell? w _ (hT i hi);have:=List.mem_singleton.1 h;simp only at*
    omega)
  go_wp2;clear hw9 hb17 n17' hc1 hc2 hc3
  refine G.pool_list (W:=w9) [b8] [.val (.agg #[.string u,int u64 xx,int u64 yy,.bool zz,.string (n++MM)]),
      .val (int u64 (k:Int)),
      .val (.string X0),
      .val (.string n),
      .val (.string (n++⟨#[69,120,112,111,114,116]⟩)),
      .val (.string EX),
      .val (.agg #[.string u,int u64 xx,int u64 yy,.bool zz,.string (n++MM),int u64 (k:Int),.string EX]),
      .set (b8) (.cells #[.string ⟨#[]⟩,int u64 0,int u64 0,.bool false,.string ⟨#[]⟩,int u64 0,.string ⟨#[]⟩] 74) (.cells #[.string u,int u64 xx,int u64 yy,.bool zz,.string (n++MM),int u64 (k:Int),.string EX] 74),
      .val (.nilIface)] [[17],[13],[12],[1],[87],[86,88],[84,85,89],[8,90],[]] (fun f=> [(some 84,.agg #[.string u,int u64 xx,int u64 yy,.bool zz,.string (n++MM)]),(some 85,int u64 (k:Int)),(some 86,.string X0),(some 87,.string n),(some 88,.string (n++⟨#[69,120,112,111,114,116]⟩)),(some 89,.string EX),(some 90,.agg #[.string u,int u64 xx,int u64 yy,.bool zz,.string (n++MM),int u64 (k:Int),.string EX]),(none,undef),(some 9,.nilIface)]) (by kernel_rfl) (by kernel_rfl) (by kernel_rfl) (by kernel_rfl) (fun _=>by kernel_rfl) (G.last_of [.cells #[.string ⟨#[]⟩,int u64 0,int u64 0,.bool false,.string ⟨#[]⟩,int u64 0,.string ⟨#[]⟩] 74] (fun F R hm=>by simp at hm) (fun ob ob' k hm=>by simp at hm) (fun b ob ob' hm=>by simp at hm;simp [hm])) (fun b ob ob' hm=>by simp at hm;obtain⟨rfl,rfl,-⟩:=hm;exact h8) ?_ ?_
  · intro ix hix
    match ix,hix with
    |0,_=>exact G.obv [(17,.pointer (some ⟨b17,0,none⟩))] rfl rfl (fun A w ⟨e0,_⟩ hB=>Y.ldT underlying31 rfl (by kernel_rfl) e0 (Y.sideS hB h17 n17))
    |1,_=>exact G.obv [(13,int u64 (k:Int))] rfl rfl (fun A w ⟨e0,_⟩ hB=>Y.move e0)
    |2,_=>exact G.obv [(12,.string X0)] rfl rfl (fun A w ⟨e0,_⟩ hB=>Y.move e0)
    |3,_=>exact G.obv [(1,.string n)] rfl rfl (fun A w ⟨e0,_⟩ hB=>Y.move e0)
    |4,_=>exact G.obv [(87,.string n)] rfl rfl (fun A w ⟨e0,_⟩ hB=>Y.cat e0 rfl hce)
    |5,_=>exact G.obv [(86,.string X0),(88,.string (n++⟨#[69,120,112,111,114,116]⟩))] rfl rfl (fun A w ⟨e0,e1,_⟩ hB=>Y.cl2 cfxE e0 e1 (by have h:=PX w (hTB w hB);exact h))
    |6,_=>exact G.obv [(84,.agg #[.string u,int u64 xx,int u64 yy,.bool zz,.string (n++MM)]),(85,int u64 (k:Int)),(89,.string EX)] rfl rfl (fun A w ⟨e0,e1,e2,_⟩ hB=>buS e0 e1 e2)
    |7,_=>exact G.ob_set (fun f=> [(8,.pointer (some ⟨b8,0,none⟩)),(90,.agg #[.string u,int u64 xx,int u64 yy,.bool zz,.string (n++MM),int u64 (k:Int),.string EX])]) rfl rfl rfl (by simp) h8.lt (fun j ob1 ob2 h=>by (rcases j with _|_|_|_|_|_|_|_|_|j)<;>simp [G.kindOf] at h⊢ <;>omega) (fun _=>by kernel_rfl) (fun f A w ⟨e0,e1,_⟩ hh hr=>Y.puA e0 e1 hr rfl (by kernel_rfl) (by simp [Value.oneCell']))
    |8,_=>exact G.obv [] rfl rfl (fun A w _ hB=>Y.assign rfl)
    |ix+9,h=>exact absurd h (by simp)
  intro f W3 hS _ _ _ hset;have q8:Bk W3 74 b8 #[.string u,int u64 xx,int u64 yy,.bool zz,.string (n++MM),int u64 (k:Int),.string EX]:=hset 7 _ _ _ rfl (by decide);have hB3:Bl w W3:=hS.under hB.drew (by intro b h;rw [List.mem_singleton.1 h];exact hl8) hB.size;clear hset hS;simp only [puts,List.foldl,Act.put,List.setIfInBounds_toArray,List.set_cons_zero,List.set_cons_succ];go_wp2;exact bodyPost_ret (v:= .tuple #[.agg #[.string u,int u64 xx,int u64 yy,.bool zz,.string (n++MM),int u64 (k:Int),.string EX],.nilIface]) (bk_res2 (fn:=Tryz.f47) (p:=8) (u:=9) results47 _ rfl q8 underlying74 rfl (by kernel_rfl)) rfl ⟨rfl,hB3⟩
end
noncomputable def slE (a0 a2:Addr) (s n:ByteArray) (t:Tri) (u:ByteArray):Value:=
  if (decide (s.size=32)&&decide (n.size=16)&&nameB u)=false then flt ⟨#[115,105,122,101,115]⟩ (sen a0) else if elT t=false then flt ⟨#[115,101,114,118,101,114]⟩ (sen a0) else if decide ((prK s n).2=0)=false then flt ⟨#[112,114,105,118,97,116,101,32,107,101,121]⟩ (flt ⟨#[107,101,121]⟩ (sen a2)) else .nilIface
noncomputable def sdL (s n:ByteArray) (t:Tri) (u:ByteArray):List Value:=if slO s n t u then [.string u,int u64 (px (slP s n)),int u64 (py (slP s n)),.bool (pb (slP s n)),.string (n++slM s n t u),int u64 ((prK s n).1:Nat),.string (prB s n wExp)] else (#[.string ⟨#[]⟩,int u64 0,int u64 0,.bool false,.string ⟨#[]⟩,int u64 0,.string ⟨#[]⟩]:Array Value).toList
theorem slI (s n:ByteArray)(t:Tri)(u:ByteArray)(a0 a2:Addr)(w:World)(hT:TabK w)(hs:So w a0 a2):
    Cr 47 #[.string s,.string n,.agg #[int u64 (t.1:Int),int u64 (t.2.1:Int),.bool t.2.2],.string u] w (.tuple #[.agg (sdL s n t u).toArray,slE a0 a2 s n t u]):=by
  cases h1:(decide (s.size=32)&&decide (n.size=16)&&nameB u) with
  | false=>
    have e:slO s n t u=false:=by
      unfold slO slC
      revert h1
      cases decide (s.size=32)<;>cases decide (n.size=16)<;>cases nameB u<;>cases elT t<;>simp
    have g:sdL s n t u=(#[.string ⟨#[]⟩,int u64 0,int u64 0,.bool false,.string ⟨#[]⟩,int u64 0,.string ⟨#[]⟩]:Array Value).toList:=by unfold sdL;rw [e];rfl
    have g2:slE a0 a2 s n t u=flt ⟨#[115,105,122,101,115]⟩ (sen a0):=by unfold slE;rw [h1];rfl
    rw [g,g2];exact selI_bad s n t u a0 a2 w hs h1
  | true=>
    have h1':=h1;simp only [Bool.and_eq_true,decide_eq_true_eq] at h1;obtain⟨⟨q1,q2⟩,q4⟩:=h1
    cases q3:elT t with
    | false=>
      have e:slO s n t u=false:=by unfold slO slC;rw [q3];simp
      have g:sdL s n t u=(#[.string ⟨#[]⟩,int u64 0,int u64 0,.bool false,.string ⟨#[]⟩,int u64 0,.string ⟨#[]⟩]:Array Value).toList:=by unfold sdL;rw [e];rfl
      have g2:slE a0 a2 s n t u=flt ⟨#[115,101,114,118,101,114]⟩ (sen a0):=by unfold slE;rw [h1',q3];rfl
      rw [g,g2];exact selI_el s n t u a0 a2 w hs q1 q2 q4 q3
    | true=>
      cases hk:decide ((prK s n).2=0) with
      | false=>
        have e:slO s n t u=false:=by unfold slO;rw [hk];simp
        have g:sdL s n t u=(#[.string ⟨#[]⟩,int u64 0,int u64 0,.bool false,.string ⟨#[]⟩,int u64 0,.string ⟨#[]⟩]:Array Value).toList:=by unfold sdL;rw [e];rfl
        have g2:slE a0 a2 s n t u=flt ⟨#[112,114,105,118,97,116,101,32,107,101,121]⟩ (flt ⟨#[107,101,121]⟩ (sen a2)):=by unfold slE;rw [h1',q3,hk];rfl
        rw [g,g2];exact selI_key s n t u a0 a2 w hs q1 q2 q4 hT q3 hk
      | true=>
        have e:slO s n t u=true:=by unfold slO slC;rw [hk,q3,q4,decide_eq_true q1,decide_eq_true q2];rfl
        have g:sdL s n t u= [.string u,int u64 (px (slP s n)),int u64 (py (slP s n)),.bool (pb (slP s n)),.string (n++slM s n t u),int u64 ((prK s n).1:Nat),.string (prB s n wExp)]:=by unfold sdL;rw [e];rfl
        have g2:slE a0 a2 s n t u= .nilIface:=by unfold slE;rw [h1',q3,hk];rfl
        rw [g,g2];exact selI_yes s n t u a0 a2 w hs q1 q2 q4 hT q3 hk
theorem slE_yes {a0 a2:Addr}{s n:ByteArray}{t:Tri}{u:ByteArray}(h:slO s n t u=true):slE a0 a2 s n t u= .nilIface:=by
  unfold slO slC at h;simp only [Bool.and_eq_true] at h;obtain⟨⟨⟨⟨h1,h2⟩,h3⟩,h4⟩,h5⟩:=h;unfold slE;rw [h1,h2,h3,h4,h5];rfl
theorem slE_no {a0 a2:Addr}{s n:ByteArray}{t:Tri}{u:ByteArray}(h:slO s n t u=false):∃T x,slE a0 a2 s n t u= .iface T x:=by
  unfold slE;split
  · exact⟨_,_,rfl⟩
  · next h1=>
    split
    · exact⟨_,_,rfl⟩
    · next h2=>
      split
      · exact⟨_,_,rfl⟩
      · next h3=>
        exfalso;rw [Bool.not_eq_false] at h1 h2 h3;simp only [Bool.and_eq_true] at h1;unfold slO slC at h;rw [h1.1.1,h1.1.2,h1.2,h2,h3] at h;cases h
end
end Go.Proofs.YtjhbckngdclleaaGreatDoor
