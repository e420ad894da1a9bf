import Derived.Test.YtjhbckngdclleaaGreatDoorMrg24
set_option linter.unusedVariables false
set_option maxRecDepth 100000
set_option maxHeartbeats 16000000
namespace Go.Proofs.YtjhbckngdclleaaGreatDoor
open Go.Proofs.Tryz Go.RowKit
open Go.Value (int)
open Go.IntKind (u64)
section
open M
theorem elT_on {t:Tri}(h:elT t=true):onT t=true:=by unfold elT at h;simp at h;exact h.1
theorem triW_px {t:Tri}(h:onT t=true):(t.1:Int)=px (asT t)∧(t.2.1:Int)=py (asT t)∧t.2.2=pb (asT t):=by
  have e:=triW_of h;rw [ptW_eq] at e;unfold triW at e;simpa using e
theorem elT_nz {t:Tri}(h:elT t=true):asT t≠none:=by
  intro e;have h2:=(triW_px (elT_on h)).2.2;rw [e] at h2;unfold elT at h;simp at h;rw [h.2] at h2;cases h2
end
namespace G
inductive Knd where
  |val (v:Value)
  |new (o o':Obj) (k:Nat)
  |put (j:Nat)
  |got (F:Nat→Value) (R:Nat→World→Prop)
  |set (b:Nat) (o o':Obj)
structure Sides (S:List Nat)(W0 w:World):Prop where
  os:w.os=W0.os
  tape:w.tape=W0.tape
  output:w.output=W0.output
  size:W0.heap.size≤w.heap.size
  block:∀k,k<W0.heap.size→k∉S→w.heap[k]? =W0.heap[k]?
theorem Sides.refl (S:List Nat)(W:World):Sides S W W:=⟨rfl,rfl,rfl,Nat.le_refl _,fun _ _ _=>rfl⟩
theorem Sides.step {S:List Nat}{W0 w w':World}(h:Sides S W0 w)(hb:Bl w w'):Sides S W0 w':=
  ⟨hb.os.trans h.os,hb.tape.trans h.tape,hb.output.trans h.output,Nat.le_trans h.size hb.size,fun k hk hn=>(hb.block k (Nat.lt_of_lt_of_le hk h.size)).trans (h.block k hk hn)⟩
theorem Sides.turn {S:List Nat}{W0 w w':World}{b:Nat}{o:Obj}(h:Sides S W0 w)(hT:Turned b o w w')(hb:W0.heap.size≤b∨b∈S):Sides S W0 w':=
  ⟨hT.os.trans h.os,hT.tape.trans h.tape,hT.output.trans h.output,by rw [hT.size];exact h.size,fun k hk hn=>(hT.other k (fun e=>by
    subst e;rcases hb with hb|hb
    · omega
    · exact hn hb)).trans (h.block k hk hn)⟩
theorem Sides.below {W0 w:World}(h:Sides [] W0 w):Bl W0 w:=⟨h.os,h.tape,h.output,h.size,fun k hk=>h.block k hk (by simp)⟩
theorem Sides.cell {S:List Nat}{W0 w:World}(h:Sides S W0 w){p:Addr}{v:Value}(hc:W0.cell? p=some v)(hn:p.block∉S):w.cell? p=some v:=by
  have hl:p.block<W0.heap.size:=World.block_lt_of_cell? W0 _ hc;rw [←hc];unfold World.cell?;rw [h.block _ hl hn]
structure Lasts (R:Nat→World→Prop)(obs:List Obj):Prop where
  below:∀x w w',R x w→Bl w w'→R x w'
  turned:∀x w w' b ob ob',R x w→ob∈obs→w.heap[b]? =some ob→Turned b ob' w w'→R x w'
section
variable (ops:Array Oper)(kind:Nat→Knd)(a0:Act)
def vl (f:Nat→Nat)(i:Nat):Value:=match kind i with
  | .val v=>v
  | .new _ _ k=>nv k (f i)
  | .put _=>undef
  | .got F _=>F (f i)
  | .set _ _ _=>undef
def look (f:Nat→Nat)(i t:Nat):Value:=match ownOf ops t with
  |some j=>if j<i then vl kind f j else a0.tmps.getD t undef
  |none=>a0.tmps.getD t undef
def canon (l:Array Bool)(f:Nat→Nat):Act:={a0 with tmps:=a0.tmps.mapIdx fun t v=>match ownOf ops t with
  |some i=>if l.getD i false then vl kind f i else v
  |none=>v}
def canonAll (f:Nat→Nat):Act:={a0 with tmps:=a0.tmps.mapIdx fun t v=>match ownOf ops t with
  |some i=>vl kind f i
  |none=>v}
end
def okG (ops:Array Oper)(kind:Nat→Knd)(md:Region.Mode):Bool:=(List.range ops.size).all fun i=>match ops[i]? with
  |none=>true
  | some o=>match o.guard with
    |none=>true
    |some (g,want)=>(match kind g with
        | .val (.bool b)=>b==want
        |_=>false)&&((ops[g]?).bind (·.dst)).isSome&&o.after.toList.any (fun e=>e.on==g&&Region.binds md e)
section
variable {P:Program}{ops:Array Oper}{Q:Exit→Act→World→Prop}{md:Region.Mode}{kind:Nat→Knd}{a0:Act}{uses:Nat→List Nat}
theorem canon_tmp (l:Array Bool)(f:Nat→Nat)(i t:Nat)(ht:∀j,ownOf ops t=some j→l.getD j false=decide (j<i)∧t<a0.tmps.size):
    (canon ops kind a0 l f).eval (.tmp t)=look ops kind a0 f i t:=by
  show(canon ops kind a0 l f).tmps.getD t undef=_;unfold canon look;rw [Array.getD_eq_getD_getElem?,Array.getElem?_mapIdx]
  cases ho:ownOf ops t with
  |none=>cases hx:a0.tmps[t]? <;>simp [hx,Array.getD_eq_getD_getElem?]
  | some j=>
    obtain⟨h1,h2⟩:=ht j ho;rw [Array.getElem?_eq_getElem h2];simp [h1,Array.getD_eq_getD_getElem?,Array.getElem?_eq_getElem h2]
theorem canon_put (h:okOps ops a0 md uses=true){i:Nat}{o:Oper}(ho:ops[i]? =some o)(l:Array Bool)(hl:i<l.size)(f f':Nat→Nat)(hf:∀j,l.getD j false=true→vl kind f' j=vl kind f j):
    (o.dst=none∨l.getD i false=false)→
    (canon ops kind a0 l f).put o.dst (vl kind f' i)=canon ops kind a0 (l.setIfInBounds i true) f':=by
  intro hli;obtain⟨hd,-⟩:=okOps_at h ho
  have key:∀t v,(∀j,ownOf ops t=some j→j≠i)→(match ownOf ops t with
      |some j=>if l.getD j false then vl kind f j else v
      |none=>v)=(match ownOf ops t with
      |some j=>if (l.setIfInBounds i true).getD j false then vl kind f' j else v
      |none=>v):=by
    intro t v hj
    cases ht:ownOf ops t with
    |none=>rfl
    | some j=>
      have hne:=hj j ht;simp only [getD_set l i j hl,if_neg hne]
      cases hlj:l.getD j false with
      |false=>rfl
      |true=>simp [hf j hlj]
  cases hdst:o.dst with
  | none=>
    unfold Act.put canon;simp only [Act.mk.injEq,and_true];apply Array.ext_getElem?;intro t;rw [Array.getElem?_mapIdx,Array.getElem?_mapIdx]
    cases a0.tmps[t]? with
    |none=>rfl
    | some v=>
      simp only [Option.map_some];rw [key t v];intro j hj e;have:=own_dst hj;rw [e,ho] at this;simp [hdst] at this
  | some d=>
    obtain⟨hod,hds⟩:=hd d hdst;unfold Act.put canon;simp only [Act.mk.injEq,and_true];apply Array.ext_getElem?;intro t;rw [Array.getElem?_setIfInBounds,Array.getElem?_mapIdx,Array.getElem?_mapIdx];by_cases e:d=t
    · subst e;rw [if_pos rfl,Array.size_mapIdx,if_pos hds,Array.getElem?_eq_getElem hds];simp only [Option.map_some,hod];rw [getD_set l i i hl];simp
    · rw [if_neg e]
      cases a0.tmps[t]? with
      |none=>rfl
      | some v=>
        simp only [Option.map_some];rw [key t v];intro j hj e2;have:=own_dst hj;rw [e2,ho] at this;simp [hdst] at this;exact e this
end
section
variable {ops:Array Oper}{md:Region.Mode}{kind:Nat→Knd}{a0:Act}{uses:Nat→List Nat}
theorem wanted_of (hok:okOps ops a0 md uses=true)(hG:okG ops kind md=true){i:Nat}{o:Oper}(ho:ops[i]? =some o)(l:Array Bool)(f:Nat→Nat)
    (hedge:∀e∈o.after.toList,Region.binds md e=true→l.getD e.on false=true):Region.wanted o (yielded ops (canon ops kind a0 l f).tmps)=true:=by
  have hl:i<ops.size:=(Array.getElem?_eq_some_iff.1 ho).1;unfold okG at hG;rw [List.all_eq_true] at hG;have h1:=hG i (List.mem_range.2 hl);rw [ho] at h1;unfold Region.wanted
  cases hg:o.guard with
  |none=>rfl
  | some gw =>
    obtain⟨g,want⟩:=gw;simp only [hg,Bool.and_eq_true] at h1;obtain⟨⟨h1,h2⟩,h3⟩:=h1;rw [List.any_eq_true] at h3;obtain⟨e,he,h4⟩:=h3;rw [Bool.and_eq_true] at h4
    have hlg:l.getD g false=true:=by
      have h5:e.on=g:=by simpa using h4.1
      exact h5▸hedge e he h4.2
    cases hog:ops[g]? with
    |none=>rw [hog] at h2;cases h2
    | some o2=>
      rw [hog] at h2
      cases hd:o2.dst with
      |none=>simp [hd] at h2
      | some d=>
        obtain⟨hown,hlt⟩:=(okOps_at hok hog).1 d hd
        have hv:(canon ops kind a0 l f).tmps[d]? =some (vl kind f g):=by
          unfold canon;rw [Array.getElem?_mapIdx,Array.getElem?_eq_getElem hlt];simp only [Option.map_some,hown,hlg,if_true]
        have hvl:vl kind f g= .bool want:=by
          unfold vl
          cases hk:kind g with
          |new _ _ _=>rw [hk] at h1;cases h1
          |put _=>rw [hk] at h1;cases h1
          |got _ _=>rw [hk] at h1;cases h1
          |set _ _ _=>rw [hk] at h1;cases h1
          | val v=>
            rw [hk] at h1
            cases v with
            |bool b=>simp only [beq_iff_eq] at h1;simp only [h1]
            |_=>cases h1
        unfold yielded;simp only [hog,Option.bind_some,hd,hv,hvl];simp
end
section
variable {P:Program}{ops:Array Oper}{Q:Exit→Act→World→Prop}{md:Region.Mode}{kind:Nat→Knd}{a0:Act}{uses:Nat→List Nat}
def PInv (S:List Nat)(md:Region.Mode)(ops:Array Oper)(kind:Nat→Knd)(a0:Act)(W0:World)(l:Array Bool)(a:Act)(w:World):Prop:=
  l.size=ops.size∧∃f:Nat→Nat,a=canon ops kind a0 l f∧Sides S W0 w∧
    (∀i ob ob' k,kind i= .new ob ob' k→l.getD i false=true→W0.heap.size≤f i∧f i<w.heap.size∧w.heap[f i]? =some (if l.getD k false=true then ob' else ob))∧
    (∀i j,l.getD i false=true→l.getD j false=true→i≠j→(∃ob ob' k,kind i= .new ob ob' k)→(∃ob ob' k,kind j= .new ob ob' k)→f i≠f j)∧
    (∀k j,kind k= .put j→l.getD k false=true→l.getD j false=true)∧
    (∀j oj,ops[j]? =some oj→l.getD j false=true→∀e∈oj.after.toList,Region.binds md e=true→l.getD e.on false=true)∧
    (∀i F R,kind i= .got F R→l.getD i false=true→R (f i) w)∧
    (∀i b ob ob',kind i= .set b ob ob'→w.heap[b]? =some (if l.getD i false=true then ob' else ob))
def Had (ops:Array Oper)(kind:Nat→Knd)(uses:Nat→List Nat)(f:Nat→Nat)(i:Nat)(w:World):Prop:=∀t∈uses i,∀j,ownOf ops t=some j→j<i→∀F R,kind j= .got F R→R (f j) w
def Ob (S:List Nat)(P:Program)(ops:Array Oper)(kind:Nat→Knd)(uses:Nat→List Nat)(a0:Act)(W0:World)(i:Nat):Prop:=∀o,ops[i]? =some o→match kind i with
  | .val v=>∀(f:Nat→Nat) (A:Act) (w:World),(∀t∈uses i,A.eval (.tmp t)=look ops kind a0 f i t)→Sides S W0 w→(∀t∈uses i,∀j,ownOf ops t=some j→j<i→∀ob k,kind j= .new ob ob k→w.heap[f j]? =some ob)→Had ops kind uses f i w→Does P o A w fun v' w'=>v'=v∧Bl w w'
  | .new ob _ k=>∀(f:Nat→Nat) (A:Act) (w:World),(∀t∈uses i,A.eval (.tmp t)=look ops kind a0 f i t)→Does P o A w fun v w'=>v=nv k w.heap.size∧w'=w.alloc ob
  | .put j=>o.dst=none∧(∃t∈uses i,ownOf ops t=some j)∧j<i∧∃ob ob',kind j= .new ob ob' i∧
      ∀(f:Nat→Nat) (A:Act) (w:World),(∀t∈uses i,A.eval (.tmp t)=look ops kind a0 f i t)→Sides S W0 w→w.heap[f j]? =some ob→Does P o A w fun _ w'=>Turned (f j) ob' w w'
  | .got F R=>∀(f:Nat→Nat) (A:Act) (w:World),(∀t∈uses i,A.eval (.tmp t)=look ops kind a0 f i t)→Sides S W0 w→(∀t∈uses i,∀j,ownOf ops t=some j→j<i→∀ob k,kind j= .new ob ob k→w.heap[f j]? =some ob)→Had ops kind uses f i w→Does P o A w fun v' w'=>∃x,v'=F x∧R x w'∧Bl w w'
  | .set b ob ob'=>o.dst=none∧b∈S∧b<W0.heap.size∧(∀j ob1 ob2,kind j= .set b ob1 ob2→j=i)∧
      ∀(f:Nat→Nat) (A:Act) (w:World),(∀t∈uses i,A.eval (.tmp t)=look ops kind a0 f i t)→Sides S W0 w→Had ops kind uses f i w→w.heap[b]? =some ob→Does P o A w fun _ w'=>Turned b ob' w w'
def Last (kind:Nat→Knd):Prop:=∀i F R,kind i= .got F R→(∀x w w',R x w→Bl w w'→R x w')∧∀x w w' b j ob ob',((∃k,kind j= .new ob ob' k)∨kind j= .set b ob ob')→R x w→w.heap[b]? =some ob→Turned b ob' w w'→R x w'
theorem pinv_start {S:List Nat}(W0:World)(hset:∀i b ob ob',kind i= .set b ob ob'→W0.heap[b]? =some ob):PInv S md ops kind a0 W0 (Array.replicate ops.size false) a0 W0:=by
  have hfa:∀j,(Array.replicate ops.size false).getD j false=false:=fun j=>by
    rw [Array.getD_eq_getD_getElem?,Array.getElem?_replicate];split<;>rfl
  refine⟨by simp,fun _=>0,?_,Sides.refl _ _,?_,?_,?_,(fun j _ _ h=>by rw [hfa] at h;cases h),(fun j _ _ _ h=>by rw [hfa] at h;cases h),(fun j b ob ob' hj=>by rw [hfa];exact hset j b ob ob' hj)⟩
  · unfold canon;cases a0;simp only [Act.mk.injEq,and_true];apply Array.ext_getElem?;intro t;rw [Array.getElem?_mapIdx]
    rename_i tm _
    cases tm[t]? with
    |none=>rfl
    | some v=>
      simp only [Option.map_some]
      cases ownOf ops t with
      |none=>rfl
      | some j=>
        have:(Array.replicate ops.size false).getD j false=false:=by
          rw [Array.getD_eq_getD_getElem?,Array.getElem?_replicate];split<;>rfl
        simp only [this];rfl
  · intro i _ _ _ _ h
    have:(Array.replicate ops.size false).getD i false=false:=by
      rw [Array.getD_eq_getD_getElem?,Array.getElem?_replicate];split<;>rfl
    rw [this] at h;cases h
  · intro i _ h
    have:(Array.replicate ops.size false).getD i false=false:=by
      rw [Array.getD_eq_getD_getElem?,Array.getElem?_replicate];split<;>rfl
    rw [this] at h;cases h
  · intro i _ _ h
    have:(Array.replicate ops.size false).getD i false=false:=by
      rw [Array.getD_eq_getD_getElem?,Array.getElem?_replicate];split<;>rfl
    rw [this] at h;cases h
theorem pinv_stepW (hok:okOps ops a0 md uses=true){W0:World}
    (hkk:∀j ob ob' k,kind j= .new ob ob' k→k<ops.size→kind k= .put j)(hlast:Last kind){l:Array Bool}{a:Act}{w:World}{i:Nat}{S:List Nat}(hsb:∀i b ob ob',kind i= .set b ob ob'→b<W0.heap.size)(hobi:Ob S P ops kind uses a0 W0 i)
    (hwn:∀o f,ops[i]? =some o→(∀e∈o.after.toList,Region.binds md e=true→l.getD e.on false=true)→Region.wanted o (yielded ops (canon ops kind a0 l f).tmps)=true)(hI:PInv S md ops kind a0 W0 l a w)(hi:i∈Region.ready md ops l):wpOp P ops Q i (PInv S md ops kind a0 W0 (l.setIfInBounds i true)) a w:=by
  obtain⟨hs,f,rfl,hB,hN,hJ,hL,hC,hR,hZ⟩:=hI;obtain⟨hil,hif,-,o,ho,hedge⟩:=ready_get hi;obtain⟨hdst,huse⟩:=okOps_at hok ho
  have hC':∀j oj,ops[j]? =some oj→(l.setIfInBounds i true).getD j false=true→∀e∈oj.after.toList,Region.binds md e=true→(l.setIfInBounds i true).getD e.on false=true:=fun j oj hoj hlj e he hb=>by
    rw [getD_set l i j hil] at hlj;rw [getD_set l i e.on hil];by_cases hji:j=i
    · subst hji;rw [ho] at hoj;cases hoj;split
      · rfl
      · exact hedge e he hb
    · rw [if_neg hji] at hlj;split
      · rfl
      · exact hC j oj hoj hlj e he hb
  have hA :∀t∈uses i,(canon ops kind a0 l f).eval (.tmp t)=look ops kind a0 f i t:=fun t ht=>canon_tmp l f i t fun j hj=>by
    refine⟨?_,?_⟩
    · rcases huse t ht j hj with ⟨hji,e,he,h1,h2⟩|hji|⟨hji,oj,hoj,e,he,h1,h2⟩
      · rw [decide_eq_true hji];exact h1▸hedge e he h2
      · subst hji;rw [hif];simp
      · rw [decide_eq_false (by omega)]
        cases hlj:l.getD j false with
        |false=>rfl
        | true=>
          have:=hC j oj hoj hlj e he h2;rw [h1,hif] at this;cases this
    have h3:=own_dst hj
    cases h4:ops[j]? with
    |none=>rw [h4] at h3;cases h3
    | some o2=>
      rw [h4] at h3;exact((okOps_at hok h4).1 t h3).2
  have hHad:Had ops kind uses f i w:=fun t ht j hj hji F R hkj=>by
    obtain⟨e,he,h1,h2⟩:∃e∈o.after.toList,e.on=j∧Region.binds md e=true:=by
      rcases huse t ht j hj with ⟨-,h⟩|h|⟨h,-⟩
      · exact h
      · omega
      · omega
    exact hR j F R hkj (h1▸hedge e he h2)
  have hw:=hwn o f ho hedge;have hob:=hobi o ho;unfold wpOp;simp only [ho,hw,if_true];left
  cases hk:kind i with
  | val v=>
    rw [hk] at hob;refine hob f _ w hA hB (fun t ht j hj hji ob k hkj=> ?_) ?_ _ _ ?_
    · obtain⟨e,he,h1,h2⟩:∃e∈o.after.toList,e.on=j∧Region.binds md e=true:=by
        rcases huse t ht j hj with ⟨-,h⟩|h|⟨h,-⟩
        · exact h
        · omega
        · omega
      have:=(hN j ob ob k hkj (h1▸hedge e he h2)).2.2;rwa [ite_self] at this
    · exact hHad
    rintro v' w' ⟨rfl,hb⟩;refine⟨by simpa using hs,f,?_,hB.step hb,?_,?_,?_,hC',fun j F R hj hlj=> ?_,?_⟩
    · have:=canon_put hok ho l hil f f (fun _ _=>rfl) (kind:=kind) (.inr hif);rw [←this];unfold vl;rw [hk]
    · intro j ob ob' k hj hlj;have hji:j≠i:=by rintro rfl;rw [hk] at hj;cases hj
      rw [getD_set l i j hil,if_neg hji] at hlj;obtain⟨h1,h2,h3⟩:=hN j ob ob' k hj hlj;refine⟨h1,Nat.lt_of_lt_of_le h2 hb.size,(hb.block _ h2).trans (h3.trans ?_)⟩;rw [getD_set l i k hil];by_cases hki:k=i
      · have:=hkk j ob ob' k hj (by omega);rw [hki,hk] at this;cases this
      · rw [if_neg hki]
    · intro j1 j2 h1 h2 hne k1 k2;have e1:j1≠i:=by rintro rfl;obtain⟨_,_,_,h⟩:=k1;rw [hk] at h;cases h
      have e2:j2≠i:=by rintro rfl;obtain⟨_,_,_,h⟩:=k2;rw [hk] at h;cases h
      rw [getD_set l i j1 hil,if_neg e1] at h1;rw [getD_set l i j2 hil,if_neg e2] at h2;exact hJ j1 j2 h1 h2 hne k1 k2
    · intro k j hkj h1;have e1:k≠i:=by rintro rfl;rw [hk] at hkj;cases hkj
      rw [getD_set l i k hil,if_neg e1] at h1;have:=hL k j hkj h1;rw [getD_set l i j hil,this];split<;>rfl
    · have hji:j≠i:=by rintro rfl;rw [hk] at hj;cases hj
      rw [getD_set l i j hil,if_neg hji] at hlj;exact(hlast j F R hj).1 _ _ _ (hR j F R hj hlj) hb
    · intro j b ob ob' hj;have hji:j≠i:=by rintro rfl;rw [hk] at hj;cases hj
      rw [getD_set l i j hil,if_neg hji,hb.block b (Nat.lt_of_lt_of_le (hsb j b ob ob' hj) hB.size)];exact hZ j b ob ob' hj
  | got F0 R0=>
    rw [hk] at hob;refine hob f _ w hA hB (fun t ht j hj hji ob k hkj=> ?_) ?_ _ _ ?_
    · obtain⟨e,he,h1,h2⟩:∃e∈o.after.toList,e.on=j∧Region.binds md e=true:=by
        rcases huse t ht j hj with ⟨-,h⟩|h|⟨h,-⟩
        · exact h
        · omega
        · omega
      have:=(hN j ob ob k hkj (h1▸hedge e he h2)).2.2;rwa [ite_self] at this
    · exact hHad
    rintro v' w' ⟨x0,rfl,hx0,hb⟩;refine⟨by simpa using hs,fun x=>if x=i then x0 else f x,?_,hB.step hb,?_,?_,?_,hC',fun j F R hj hlj=> ?_,?_⟩
    · have:=canon_put hok ho l hil f (fun x=>if x=i then x0 else f x) (fun j hj=>by
        have hji:j≠i:=by rintro rfl;rw [hif] at hj;cases hj
        unfold vl
        cases kind j<;>simp [hji]) (kind:=kind) (.inr hif)
      rw [←this];unfold vl;rw [hk];simp
    · intro j ob ob' k hj hlj;have hji:j≠i:=by rintro rfl;rw [hk] at hj;cases hj
      rw [getD_set l i j hil,if_neg hji] at hlj;simp only [if_neg hji];obtain⟨h1,h2,h3⟩:=hN j ob ob' k hj hlj;refine⟨h1,Nat.lt_of_lt_of_le h2 hb.size,(hb.block _ h2).trans (h3.trans ?_)⟩;rw [getD_set l i k hil];by_cases hki:k=i
      · have:=hkk j ob ob' k hj (by omega);rw [hki,hk] at this;cases this
      · rw [if_neg hki]
    · intro j1 j2 h1 h2 hne k1 k2;have e1:j1≠i:=by rintro rfl;obtain⟨_,_,_,h⟩:=k1;rw [hk] at h;cases h
      have e2:j2≠i:=by rintro rfl;obtain⟨_,_,_,h⟩:=k2;rw [hk] at h;cases h
      rw [getD_set l i j1 hil,if_neg e1] at h1;rw [getD_set l i j2 hil,if_neg e2] at h2;simp only [if_neg e1,if_neg e2];exact hJ j1 j2 h1 h2 hne k1 k2
    · intro k j hkj h1;have e1:k≠i:=by rintro rfl;rw [hk] at hkj;cases hkj
      rw [getD_set l i k hil,if_neg e1] at h1;have:=hL k j hkj h1;rw [getD_set l i j hil,this];split<;>rfl
    · by_cases hji:j=i
      · subst hji;rw [hk] at hj;cases hj;simp only [if_true];exact hx0
      · rw [getD_set l i j hil,if_neg hji] at hlj;simp only [if_neg hji];exact(hlast j F R hj).1 _ _ _ (hR j F R hj hlj) hb
    · intro j b ob ob' hj;have hji:j≠i:=by rintro rfl;rw [hk] at hj;cases hj
      rw [getD_set l i j hil,if_neg hji,hb.block b (Nat.lt_of_lt_of_le (hsb j b ob ob' hj) hB.size)];exact hZ j b ob ob' hj
  | new ob ob' k=>
    rw [hk] at hob;refine hob f _ w hA _ _ ?_;rintro v' w' ⟨rfl,rfl⟩
    have hlk:l.getD k false=false:=by
      cases h:l.getD k false with
      |false=>rfl
      | true=>
        have hks:k<ops.size:=by
          by_cases hx:k<ops.size
          · exact hx
          · rw [Array.getD_eq_getD_getElem?,Array.getElem?_eq_none (by omega)] at h;cases h
        have:=hL k i (hkk i ob ob' k hk hks) h;rw [hif] at this;cases this
    have hki:k≠i:=by
      rintro rfl;have:=hkk k ob ob' k hk (by omega);rw [hk] at this;cases this
    refine⟨by simpa using hs,fun x=>if x=i then w.heap.size else f x,?_,hB.step ((Below.refl _ w).alloc (Nat.le_refl _) _),?_,?_,?_,hC',fun j F R hj hlj=> ?_,?_⟩
    · have:=canon_put hok ho l hil f (fun x=>if x=i then w.heap.size else f x) (fun j hj=>by
        have hji:j≠i:=by rintro rfl;rw [hif] at hj;cases hj
        unfold vl
        cases kind j<;>simp [hji]) (kind:=kind) (.inr hif)
      rw [←this];unfold vl;rw [hk];simp
    · intro j ob1 ob2 k2 hj hlj;by_cases hji:j=i
      · subst hji;rw [hk] at hj;cases hj;rw [getD_set l j k hil,if_neg hki,hlk];simp only [if_true];exact⟨hB.size,by simp,by show(w.heap.push ob)[w.heap.size]? =_;simp⟩
      · rw [getD_set l i j hil,if_neg hji] at hlj;obtain⟨h1,h2,h3⟩:=hN j ob1 ob2 k2 hj hlj;simp only [if_neg hji];refine⟨h1,by simp;omega,(Below.heap_alloc w ob _ h2).trans (h3.trans ?_)⟩;rw [getD_set l i k2 hil];by_cases hk2:k2=i
        · have:=hkk j ob1 ob2 k2 hj (by omega);rw [hk2,hk] at this;cases this
        · rw [if_neg hk2]
    · intro j1 j2 h1 h2 hne k1 k2;rw [getD_set l i j1 hil] at h1;rw [getD_set l i j2 hil] at h2;by_cases e1:j1=i
      · have e2:j2≠i:=fun e=>hne (e1.trans e.symm)
        rw [if_neg e2] at h2;obtain⟨_,_,_,hx⟩:=k2;have:=(hN j2 _ _ _ hx h2).2.1;simp only [if_pos e1,if_neg e2];omega
      · rw [if_neg e1] at h1;by_cases e2:j2=i
        · obtain⟨_,_,_,hx⟩:=k1;have:=(hN j1 _ _ _ hx h1).2.1;simp only [if_neg e1,if_pos e2];omega
        · rw [if_neg e2] at h2;simp only [if_neg e1,if_neg e2];exact hJ j1 j2 h1 h2 hne k1 k2
    · intro k2 j hkj h1;have e1:k2≠i:=by rintro rfl;rw [hk] at hkj;cases hkj
      rw [getD_set l i k2 hil,if_neg e1] at h1;have:=hL k2 j hkj h1;rw [getD_set l i j hil,this];split<;>rfl
    · have hji:j≠i:=by rintro rfl;rw [hk] at hj;cases hj
      rw [getD_set l i j hil,if_neg hji] at hlj;simp only [if_neg hji];exact(hlast j F R hj).1 _ _ _ (hR j F R hj hlj) ((Below.refl _ w).alloc (Nat.le_refl _) _)
    · intro j b ob1 ob2 hj;have hji:j≠i:=by rintro rfl;rw [hk] at hj;cases hj
      rw [getD_set l i j hil,if_neg hji,Below.heap_alloc w ob b (Nat.lt_of_lt_of_le (hsb j b ob1 ob2 hj) hB.size)];exact hZ j b ob1 ob2 hj
  | put j=>
    rw [hk] at hob;obtain⟨hdn,⟨t,ht,htj⟩,hji,ob,ob',hkj,hdo⟩:=hob
    have hlj:l.getD j false=true:=by
      obtain⟨e,he,h1,h2⟩:∃e∈o.after.toList,e.on=j∧Region.binds md e=true:=by
        rcases huse t ht j htj with ⟨-,h⟩|h|⟨h,-⟩
        · exact h
        · omega
        · omega
      exact h1▸hedge e he h2
    obtain⟨g1,g2,g3⟩:=hN j ob ob' i hkj hlj;rw [hif] at g3;refine hdo f _ w hA hB (by simpa using g3) _ _ ?_;rintro v' w' hT;refine⟨by simpa using hs,f,?_,hB.turn hT (.inl g1),?_,?_,?_,hC',fun j3 F R hj3 hl3=> ?_,?_⟩
    · have:=canon_put hok ho l hil f f (fun _ _=>rfl) (kind:=kind) (.inl hdn);rw [←this,hdn];rfl
    · intro j2 ob1 ob2 k2 hj2 hl2;have hji:j2≠i:=by rintro rfl;rw [hk] at hj2;cases hj2
      rw [getD_set l i j2 hil,if_neg hji] at hl2;obtain⟨h1,h2,h3⟩:=hN j2 ob1 ob2 k2 hj2 hl2;refine⟨h1,by rw [hT.size];exact h2,?_⟩;by_cases hjj:j2=j
      · subst hjj;rw [hkj] at hj2;cases hj2;rw [getD_set l i i hil,if_pos rfl];simpa using hT.self
      · have hne:=hJ j2 j hl2 hlj hjj ⟨_,_,_,hj2⟩ ⟨_,_,_,hkj⟩;rw [hT.other _ hne,h3,getD_set l i k2 hil];by_cases hk2:k2=i
        · have:=hkk j2 ob1 ob2 k2 hj2 (by omega);rw [hk2,hk] at this;cases this;exact absurd rfl hjj
        · rw [if_neg hk2]
    · intro j1 j2 h1 h2 hne k1 k2;have e1:j1≠i:=by rintro rfl;obtain⟨_,_,_,h⟩:=k1;rw [hk] at h;cases h
      have e2:j2≠i:=by rintro rfl;obtain⟨_,_,_,h⟩:=k2;rw [hk] at h;cases h
      rw [getD_set l i j1 hil,if_neg e1] at h1;rw [getD_set l i j2 hil,if_neg e2] at h2;exact hJ j1 j2 h1 h2 hne k1 k2
    · intro k2 j2 hkj2 h1;rw [getD_set l i k2 hil] at h1
      have:l.getD j2 false=true:=by
        by_cases e1:k2=i
        · rw [e1,hk] at hkj2;cases hkj2;exact hlj
        · rw [if_neg e1] at h1;exact hL k2 j2 hkj2 h1
      rw [getD_set l i j2 hil,this];split<;>rfl
    · have hji:j3≠i:=by rintro rfl;rw [hk] at hj3;cases hj3
      rw [getD_set l i j3 hil,if_neg hji] at hl3;exact(hlast j3 F R hj3).2 _ _ _ _ j ob ob' (.inl ⟨i,hkj⟩) (hR j3 F R hj3 hl3) (by simpa using g3) hT
    · intro j1 b ob1 ob2 hj;have hji:j1≠i:=by rintro rfl;rw [hk] at hj;cases hj
      rw [getD_set l i j1 hil,if_neg hji,hT.other b (by have:=hsb j1 b ob1 ob2 hj;omega)];exact hZ j1 b ob1 ob2 hj
  | set b ob ob'=>
    rw [hk] at hob;obtain⟨hdn,hbS,hbl,hone,hdo⟩:=hob;have g3:=hZ i b ob ob' hk;rw [hif] at g3;refine hdo f _ w hA hB hHad (by simpa using g3) _ _ ?_;rintro v' w' hT;refine⟨by simpa using hs,f,?_,hB.turn hT (.inr hbS),?_,?_,?_,hC',fun j3 F R hj3 hl3=> ?_,?_⟩
    · have:=canon_put hok ho l hil f f (fun _ _=>rfl) (kind:=kind) (.inl hdn);rw [←this,hdn];rfl
    · intro j2 ob1 ob2 k2 hj2 hl2;have hji:j2≠i:=by rintro rfl;rw [hk] at hj2;cases hj2
      rw [getD_set l i j2 hil,if_neg hji] at hl2;obtain⟨h1,h2,h3⟩:=hN j2 ob1 ob2 k2 hj2 hl2;refine⟨h1,by rw [hT.size];exact h2,?_⟩;rw [hT.other _ (by omega),h3,getD_set l i k2 hil];by_cases hk2:k2=i
      · have:=hkk j2 ob1 ob2 k2 hj2 (by omega);rw [hk2,hk] at this;cases this
      · rw [if_neg hk2]
    · intro j1 j2 h1 h2 hne k1 k2;have e1:j1≠i:=by rintro rfl;obtain⟨_,_,_,h⟩:=k1;rw [hk] at h;cases h
      have e2:j2≠i:=by rintro rfl;obtain⟨_,_,_,h⟩:=k2;rw [hk] at h;cases h
      rw [getD_set l i j1 hil,if_neg e1] at h1;rw [getD_set l i j2 hil,if_neg e2] at h2;exact hJ j1 j2 h1 h2 hne k1 k2
    · intro k2 j2 hkj2 h1;have e1:k2≠i:=by rintro rfl;rw [hk] at hkj2;cases hkj2
      rw [getD_set l i k2 hil,if_neg e1] at h1;have:=hL k2 j2 hkj2 h1;rw [getD_set l i j2 hil,this];split<;>rfl
    · have hji:j3≠i:=by rintro rfl;rw [hk] at hj3;cases hj3
      rw [getD_set l i j3 hil,if_neg hji] at hl3;exact(hlast j3 F R hj3).2 _ _ _ _ i ob ob' (.inr hk) (hR j3 F R hj3 hl3) (by simpa using g3) hT
    · intro j1 b1 ob1 ob2 hj;by_cases hji:j1=i
      · subst hji;rw [hk] at hj;cases hj;rw [getD_set l j1 j1 hil,if_pos rfl];simpa using hT.self
      · rw [getD_set l i j1 hil,if_neg hji]
        have hbb:b1≠b:=by
          rintro rfl;exact hji (hone j1 ob1 ob2 hj)
        rw [hT.other b1 hbb];exact hZ j1 b1 ob1 ob2 hj
theorem pinv_step (hok:okOps ops a0 md uses=true)(hG:okG ops kind md=true){W0:World}
    (hkk:∀j ob ob' k,kind j= .new ob ob' k→k<ops.size→kind k= .put j)(hlast:Last kind){l:Array Bool}{a:Act}{w:World}{i:Nat}{S:List Nat}(hsb:∀i b ob ob',kind i= .set b ob ob'→b<W0.heap.size)(hobi:Ob S P ops kind uses a0 W0 i)
    (hI:PInv S md ops kind a0 W0 l a w)(hi:i∈Region.ready md ops l):wpOp P ops Q i (PInv S md ops kind a0 W0 (l.setIfInBounds i true)) a w:=
  pinv_stepW hok hkk hlast hsb hobi (fun o f ho hedge=>wanted_of (kind:=kind) hok hG ho l f hedge) hI hi
def dagB (md:Region.Mode)(ops:Array Oper):Bool:=(List.range ops.size).all fun i=>match ops[i]? with
  |some o=>o.after.toList.all fun e=> !Region.binds md e||decide (e.on<i)
  |none=>true
theorem all_listedB (hd:dagB md ops=true)(l:Array Bool)(hs:l.size=ops.size)(hr:Region.ready md ops l= []):∀n i,i<n→i<ops.size→l.getD i false=true:=by
  intro n
  induction n with
  |zero=>intro i h;omega
  | succ n ih =>
    intro i hi hsz;by_cases hlt:i<n
    · exact ih i hlt hsz
    · have hin:i=n:=by omega
      subst hin
      cases hl:l.getD i false with
      |true=>rfl
      | false =>
        exfalso
        have hm:i∈Region.ready md ops l:=by
          unfold Region.ready;rw [List.mem_filter];refine⟨List.mem_range.2 hsz,?_⟩;rw [Bool.and_eq_true];constructor
          · rw [Array.getD_eq_getD_getElem?,Array.getElem?_eq_getElem (by omega)] at hl⊢;simpa using hl
          · rw [Array.getElem?_eq_getElem hsz];simp only [Option.map_some,Option.getD_some,Array.all_eq_true_iff_forall_mem];intro e he;unfold dagB at hd;rw [List.all_eq_true] at hd;have h1:=hd i (List.mem_range.2 hsz);rw [Array.getElem?_eq_getElem hsz] at h1;simp only [List.all_eq_true] at h1;have h2:=h1 e (Array.mem_toList_iff.2 he)
            cases hbnd:Region.binds md e with
            |false=>simp
            | true=>
              rw [hbnd] at h2;have h3:e.on<i:=by simpa using h2
              rw [ih e.on h3 (by omega)];simp
        rw [hr] at hm;cases hm
theorem pool_any {S:List Nat}(hok:okOps ops a0 md uses=true)(hG:okG ops kind md=true)(hdag:dagB md ops=true)(W0:World)
    (hkk:∀j ob ob' k,kind j= .new ob ob' k→k<ops.size→kind k= .put j)(hlast:Last kind)
    (hset:∀i b ob ob',kind i= .set b ob ob'→W0.heap[b]? =some ob)
    (hob:∀i,i<ops.size→Ob S P ops kind uses a0 W0 i)
    (fin:∀(f:Nat→Nat) (w:World),Sides S W0 w→
      (∀i ob ob' k,kind i= .new ob ob' k→i<ops.size→W0.heap.size≤f i∧w.heap[f i]? =some (if k<ops.size then ob' else ob))→
      (∀i j,i<ops.size→j<ops.size→i≠j→(∃ob ob' k,kind i= .new ob ob' k)→(∃ob ob' k,kind j= .new ob ob' k)→f i≠f j)→
      (∀i F R,kind i= .got F R→i<ops.size→R (f i) w)→
      (∀i b ob ob',kind i= .set b ob ob'→i<ops.size→w.heap[b]? =some ob')→
      Q .normal (canonAll ops kind a0 f) w):
    wpAny P md ops Q ops.size (Array.replicate ops.size false) a0 W0:=by
  refine any_inv (PInv S md ops kind a0 W0) ?fin (fun l a w i hI hi=>pinv_step hok hG hkk hlast (fun i b ob ob' h=>(Array.getElem?_eq_some_iff.1 (hset i b ob ob' h)).1) (hob i ?lt) hI hi) _ _ _ _ ?cnt (pinv_start W0 hset)
  case lt=>
    obtain⟨-,-,-,o,ho,-⟩:=ready_get hi;exact(Array.getElem?_eq_some_iff.1 ho).1
  case cnt=>simp
  case fin=>
    rintro l a w ⟨hs,f,rfl,hB,hN,hJ,-,-,hR,hZ⟩ hr;have hall:∀i,i<ops.size→l.getD i false=true:=fun i hi=>all_listedB hdag l hs hr (i+1) i (by omega) hi
    have hc:canon ops kind a0 l f=canonAll ops kind a0 f:=by
      unfold canon canonAll;simp only [Act.mk.injEq,and_true];apply Array.ext_getElem?;intro t;rw [Array.getElem?_mapIdx,Array.getElem?_mapIdx]
      cases a0.tmps[t]? with
      |none=>rfl
      | some v=>
        simp only [Option.map_some]
        cases ht:ownOf ops t with
        |none=>rfl
        |some j=>simp only [hall j (own_lt ht),if_true]
    rw [hc]
    refine fin f w hB (fun i ob ob' k hk hi=> ?_) (fun i j hi hj=>hJ i j (hall i hi) (hall j hj)) (fun i F R hk hi=>hR i F R hk (hall i hi)) (fun i b ob ob' hk hi=>by
      have:=hZ i b ob ob' hk
      rwa [if_pos (hall i hi)] at this)
    obtain⟨h1,-,h3⟩:=hN i ob ob' k hk (hall i hi);refine⟨h1,h3.trans ?_⟩;by_cases hkl:k<ops.size
    · rw [if_pos (hall k hkl),if_pos hkl]
    · have:l.getD k false=false:=by rw [Array.getD_eq_getD_getElem?,Array.getElem?_eq_none (by omega)];rfl
      rw [this,if_neg hkl];rfl
theorem canon_same (l l':Array Bool)(f:Nat→Nat)(h:∀j,j<ops.size→l.getD j false=l'.getD j false):canon ops kind a0 l f=canon ops kind a0 l' f:=by
  unfold canon;simp only [Act.mk.injEq,and_true];apply Array.ext_getElem?;intro t;rw [Array.getElem?_mapIdx,Array.getElem?_mapIdx]
  cases a0.tmps[t]? with
  |none=>rfl
  | some v=>
    simp only [Option.map_some]
    cases ht:ownOf ops t with
    |none=>rfl
    |some j=>simp only [h j (own_lt ht)]
theorem canon_upto (h:okOps ops a0 md uses=true)(f:Nat→Nat):∀k,k≤ops.size→canon ops kind a0 (upto ops.size k) f=puts ((List.range k).map fun i=>((ops[i]?).bind (·.dst),vl kind f i)) a0:=by
  intro k
  induction k with
  | zero=>
    intro _;unfold canon puts;simp only [List.range_zero,List.map_nil,List.foldl_nil];cases a0;simp only [Act.mk.injEq,and_true];apply Array.ext_getElem?;intro t;rw [Array.getElem?_mapIdx]
    rename_i tm _
    cases tm[t]? with
    |none=>rfl
    | some v=>
      simp only [Option.map_some]
      cases ownOf ops t with
      |none=>rfl
      |some j=>simp only [upto_getD,Nat.not_lt_zero,decide_false,Bool.and_false];rfl
  | succ k ih=>
    intro hk;have hs:(upto ops.size k).size=ops.size:=by simp [upto]
    rw [List.range_succ,List.map_append];unfold puts;rw [List.foldl_append];have ih':=ih (by omega);unfold puts at ih';rw [←ih'];have ho:ops[k]? =some ops[k]:=Array.getElem?_eq_getElem (by omega);simp only [List.map_cons,List.map_nil,List.foldl_cons,List.foldl_nil,ho,Option.bind_some];rw [canon_put h ho (upto ops.size k) (by omega) f f (fun _ _=>rfl) (.inr (by rw [upto_getD];simp))];refine canon_same _ _ f fun j hj=> ?_
    rw [getD_set _ _ _ (by omega),upto_getD,upto_getD];by_cases e:j=k
    · subst e;simp [hj]
    · rw [if_neg e];have:decide (j<k)=decide (j<k+1):=by rw [Bool.eq_iff_iff];simp;omega
      rw [this]
theorem canonAll_puts (h:okOps ops a0 md uses=true)(f:Nat→Nat):canonAll ops kind a0 f=puts ((List.range ops.size).map fun i=>((ops[i]?).bind (·.dst),vl kind f i)) a0:=by
  rw [←canon_upto h f ops.size (Nat.le_refl _)];unfold canon canonAll;simp only [Act.mk.injEq,and_true];apply Array.ext_getElem?;intro t;rw [Array.getElem?_mapIdx,Array.getElem?_mapIdx]
  cases a0.tmps[t]? with
  |none=>rfl
  | some v=>
    simp only [Option.map_some]
    cases ht:ownOf ops t with
    |none=>rfl
    |some j=>simp only [upto_getD,own_lt ht,decide_true,Bool.and_true,if_true]
def kindOf (kinds:List Knd)(i:Nat):Knd:=kinds.getD i (.put i)
def okK (kinds:List Knd)(n:Nat):Bool:=(List.range kinds.length).all fun j=>match kindOf kinds j with
  | .new _ _ k=>if k<n then (match kindOf kinds k with
    | .put j'=>j'==j
    |_=>false) else true
  |_=>true
theorem okK_is {kinds:List Knd}{n:Nat}(h:okK kinds n=true):∀j ob ob' k,kindOf kinds j= .new ob ob' k→k<n→kindOf kinds k= .put j:=by
  intro j ob ob' k hj hk
  have hl:j<kinds.length:=by
    by_cases hx:j<kinds.length
    · exact hx
    · unfold kindOf at hj;rw [List.getD_eq_getElem?_getD,List.getElem?_eq_none (by omega)] at hj;cases hj
  unfold okK at h;rw [List.all_eq_true] at h;have h1:=h j (List.mem_range.2 hl);rw [hj] at h1;simp only [if_pos hk] at h1
  cases h2:kindOf kinds k with
  |val v=>rw [h2] at h1;cases h1
  |new _ _ _=>rw [h2] at h1;cases h1
  |got _ _=>rw [h2] at h1;cases h1
  |set _ _ _=>rw [h2] at h1;cases h1
  | put j'=>
    rw [h2] at h1;simp at h1;rw [h1]
theorem ob_val {S:List Nat}{W0:World}{i:Nat}{o:Oper}{v:Value}(ins:List (Nat×Value))(ho:ops[i]? =some o)(hk:kind i= .val v)(hi:∀f,(uses i).map (fun t=>(t,look ops kind a0 f i t))=ins)
    (h:∀A w,Evs A ins→Sides S W0 w→Does P o A w fun v' w'=>v'=v∧Bl w w'):Ob S P ops kind uses a0 W0 i:=by
  intro o' ho';rw [ho] at ho';cases ho';rw [hk];intro f A w hA hB _ _;exact h A w (hi f▸evs_of _ hA) hB
theorem obv {S:List Nat}{W0:World}{i:Nat}{o:Oper}{v:Value}(ins:List (Nat×Value))(ho:ops[i]? =some o)(hk:kind i= .val v)(h:∀A w,Evs A ins→Sides S W0 w→Does P o A w fun v' w'=>v'=v∧Bl w w')(hi:∀f,(uses i).map (fun t=>(t,look ops kind a0 f i t))=ins:=by intro _;kernel_rfl):Ob S P ops kind uses a0 W0 i:=ob_val ins ho hk hi h
theorem ob_use {S:List Nat}{W0:World}{i:Nat}{o:Oper}{v:Value}(t j k:Nat)(ob:Obj)(ins:(Nat→Nat)→List (Nat×Value))(ho:ops[i]? =some o)(hk:kind i= .val v)(ht:t∈uses i)(hown:ownOf ops t=some j)(hkj:kind j= .new ob ob k)
    (hi:∀f,(uses i).map (fun t=>(t,look ops kind a0 f i t))=ins f)
    (h:∀f A w,Evs A (ins f)→Sides S W0 w→w.heap[f j]? =some ob→Does P o A w fun v' w'=>v'=v∧Bl w w')(hji:decide (j<i)=true:=by decide):Ob S P ops kind uses a0 W0 i:=by
  intro o' ho';rw [ho] at ho';cases ho';rw [hk];intro f A w hA hB hu _;exact h f A w (hi f▸evs_of _ hA) hB (hu t ht j hown (of_decide_eq_true hji) ob k hkj)
theorem ob_new {S:List Nat}{W0:World}{i:Nat}{o:Oper}{ob ob':Obj}{k:Nat}(ho:ops[i]? =some o)(hk:kind i= .new ob ob' k)
    (h:∀(A:Act) (w:World),Does P o A w fun v w'=>v= .pointer (some ⟨w.heap.size,0,none⟩)∧w'=w.alloc ob)(hk1:decide (k<1000)=true:=by decide):Ob S P ops kind uses a0 W0 i:=by
  intro o' ho';rw [ho] at ho';cases ho';rw [hk];intro f A w _;have e:nv k w.heap.size= .pointer (some ⟨w.heap.size,0,none⟩):=by unfold nv;rw [if_neg (by have:=of_decide_eq_true hk1;omega)]
  rw [e];exact h A w
theorem ob_slc {S:List Nat}{W0:World}{i:Nat}{o:Oper}{ob ob':Obj}(n:Nat)(ins:List (Nat×Value))(ho:ops[i]? =some o)(hk:kind i= .new ob ob' (1000+n))(hi:∀f,(uses i).map (fun t=>(t,look ops kind a0 f i t))=ins)
    (h:∀(A:Act) (w:World),Evs A ins→Does P o A w fun v w'=>v= .slice (some ⟨w.heap.size,0,none⟩) n n∧w'=w.alloc ob):Ob S P ops kind uses a0 W0 i:=by
  intro o' ho';rw [ho] at ho';cases ho';rw [hk];intro f A w hA;have e:nv (1000+n) w.heap.size= .slice (some ⟨w.heap.size,0,none⟩) n n:=by unfold nv;rw [if_pos (by omega),show 1000+n-1000=n by omega]
  rw [e];exact h A w (hi f▸evs_of _ hA)
theorem ob_put {S:List Nat}{W0:World}{i j:Nat}{o:Oper}{ob ob':Obj}(t:Nat)(ins:(Nat→Nat)→List (Nat×Value))(ho:ops[i]? =some o)(hk:kind i= .put j)(hd:o.dst=none)(ht:t∈uses i)(hown:ownOf ops t=some j)
    (hkj:kind j= .new ob ob' i)(hi:∀f,(uses i).map (fun t=>(t,look ops kind a0 f i t))=ins f)
    (h:∀f A w,Evs A (ins f)→w.heap[f j]? =some ob→Does P o A w fun _ w'=>Turned (f j) ob' w w')(hji:decide (j<i)=true:=by decide):Ob S P ops kind uses a0 W0 i:=by
  intro o' ho';rw [ho] at ho';cases ho';rw [hk];exact⟨hd,⟨t,ht,hown⟩,of_decide_eq_true hji,ob,ob',hkj,fun f A w hA hB hw=>h f A w (hi f▸evs_of _ hA) hw⟩
theorem ob_set {S:List Nat}{W0:World}{i b:Nat}{o:Oper}{ob ob':Obj}(ins:(Nat→Nat)→List (Nat×Value))(ho:ops[i]? =some o)(hk:kind i= .set b ob ob')(hd:o.dst=none)(hS:b∈S)(hb:b<W0.heap.size)(hone:∀j ob1 ob2,kind j= .set b ob1 ob2→j=i)
    (hi:∀f,(uses i).map (fun t=>(t,look ops kind a0 f i t))=ins f)
    (h:∀f A w,Evs A (ins f)→Had ops kind uses f i w→w.heap[b]? =some ob→Does P o A w fun _ w'=>Turned b ob' w w'):Ob S P ops kind uses a0 W0 i:=by
  intro o' ho';rw [ho] at ho';cases ho';rw [hk];exact⟨hd,hS,hb,hone,fun f A w hA hB hh hw=>h f A w (hi f▸evs_of _ hA) hh hw⟩
theorem kind_mem {kinds:List Knd}{i:Nat}{k:Knd}(h:kindOf kinds i=k)(hp:k≠ .put i):k∈kinds:=by
  unfold kindOf at h;rw [List.getD_eq_getElem?_getD] at h
  cases hx:kinds[i]? with
  |none=>rw [hx] at h;exact absurd h.symm hp
  |some k'=>rw [hx] at h;rw [←h];exact List.mem_of_getElem? hx
theorem last_of {kinds:List Knd}(obs:List Obj)(h:∀F R,Knd.got F R∈kinds→Lasts R obs)(ho:∀ob ob' k,Knd.new ob ob' k∈kinds→ob∈obs)(ho2:∀b ob ob',Knd.set b ob ob'∈kinds→ob∈obs):Last (kindOf kinds):=by
  intro i F R hk;have h1:=h F R (kind_mem hk (by simp));refine⟨h1.below,fun x w w' b j ob ob' hj hR hb hT=>h1.turned x w w' b ob ob' hR ?_ hb hT⟩;rcases hj with ⟨k,hj⟩|hj
  · exact ho ob ob' k (kind_mem hj (by simp))
  · exact ho2 b ob ob' (kind_mem hj (by simp))
theorem set_of {kinds:List Knd}{W0:World}(h:∀b ob ob',Knd.set b ob ob'∈kinds→W0.heap[b]? =some ob):∀i b ob ob',kindOf kinds i= .set b ob ob'→W0.heap[b]? =some ob:=fun i b ob ob' hk=>h b ob ob' (kind_mem hk (by simp))
theorem pool_list (S:List Nat){id:Nat}{W:World}(kinds:List Knd)(us:List (List Nat))(dl:(Nat→Nat)→List (Option Tmp×Value))(hm:P.follows .mixedOrders=true)(hok:(okOps ops a0 .any (usesOf us)&&okG ops (kindOf kinds) .any)=true)(hdag:dagB .any ops=true)(hkk:okK kinds ops.size=true)
    (hdl:∀f,((List.range ops.size).map fun i=>((ops[i]?).bind (·.dst),vl (kindOf kinds) f i))=dl f)(hlast:Last (kindOf kinds))(hset:∀b ob ob',Knd.set b ob ob'∈kinds→W.drew.heap[b]? =some ob)
    (hob:∀i,i<ops.size→Ob S P ops (kindOf kinds) (usesOf us) a0 W.drew i)
    (fin:∀(f:Nat→Nat) (w:World),Sides S W.drew w→
      (∀i ob ob' k,kindOf kinds i= .new ob ob' k→i<ops.size→W.drew.heap.size≤f i∧w.heap[f i]? =some (if k<ops.size then ob' else ob))→
      (∀i j,i<ops.size→j<ops.size→i≠j→(∃ob ob' k,kindOf kinds i= .new ob ob' k)→(∃ob ob' k,kindOf kinds j= .new ob ob' k)→f i≠f j)→
      (∀i F R,kindOf kinds i= .got F R→i<ops.size→R (f i) w)→
      (∀i b ob ob',kindOf kinds i= .set b ob ob'→i<ops.size→w.heap[b]? =some ob')→
      Q .normal (puts (dl f) a0) w):
    (Code.region id ops true).wp P Q a0 W:=
  wp_region_any hm (pool_any (and_l hok) (and_r hok) hdag W.drew (okK_is hkk) hlast (set_of hset) hob fun f w h1 h2 h3 h4 h5=>by
    rw [canonAll_puts (and_l hok) f,hdl f]
    exact fin f w h1 h2 h3 h4 h5)
end
end G
section
variable {A:Act}{w:World}{dst:Option Tmp}{ty:TypeId}{ps:String}{af:Array Edge}{gd:Option (Nat×Bool)}{x y:Operand}{b i:Nat}
theorem doV_move {u:Value}(hx:A.eval x=u):
    Does prog (Opr dst (.move x) ty ps af gd) A w fun v' w'=>v'=u∧Bl w w':=dv (by generalize A.eval=ev at*;simp [execOp,hx,go_sem])
theorem doV_assign {u:Value}(hx:A.eval x=u):
    Does prog (Opr dst (.assign x) ty ps af gd) A w fun v' w'=>v'=u∧Bl w w':=dv (by generalize A.eval=ev at*;simp [execOp,hx,go_sem])
theorem ld_cp {v0 v1 v2:Value}(hx:A.eval x= .pointer (some ⟨b,i,none⟩))(h0:w.cell? ⟨b,i,none⟩=some v0)(h1:w.cell? ⟨b,i+1,none⟩=some v1)(h2:w.cell? ⟨b,i+2,none⟩=some v2):
    Does prog (Opr dst (.load 101 x) ty ps af gd) A w fun v' w'=>v'= .agg #[v0,v1,v2]∧Bl w w':=dv (by generalize A.eval=ev at*;simp [execOp,hx,h0,h1,h2,go_sem])
theorem cl0 {F:FuncId}{at_:Array TypeId}{r:Value}(hcf:∀(args:Array Value) (w:World),(callFunc F args).run prog w= .ok (.enter F args) w)
    (hc:Cr F #[] w r):
    Does prog (Opr dst (.call {callee:= .value (.func F),args:=#[],argTypes:=at_}) ty ps af gd) A w fun v' w'=>v'=r∧Bl w w':=by
  have hF:A.eval (.func F)= .func (.func F) #[] #[]:=rfl;have h:(execOp A.eval (Opr dst (.call {callee:= .value (.func F),args:=#[],argTypes:=at_}) ty ps af gd)).run prog w= .ok (.enter F #[]) w:=by generalize A.eval=ev at*;simp [execOp,hF,hcf,go_sem]
  exact does_call h (hc.mono fun _ _ ⟨h,h'⟩=>⟨r,h,rfl,h'⟩)
theorem cl1 {F:FuncId}{at_:Array TypeId}{r:Value}{x0:Operand}{u0:Value}(hcf:∀(args:Array Value) (w:World),(callFunc F args).run prog w= .ok (.enter F args) w)(h0:A.eval x0=u0)
    (hc:Cr F #[u0] w r):
    Does prog (Opr dst (.call {callee:= .value (.func F),args:=#[x0],argTypes:=at_}) ty ps af gd) A w fun v' w'=>v'=r∧Bl w w':=by
  have hF:A.eval (.func F)= .func (.func F) #[] #[]:=rfl;have h:(execOp A.eval (Opr dst (.call {callee:= .value (.func F),args:=#[x0],argTypes:=at_}) ty ps af gd)).run prog w= .ok (.enter F #[u0]) w:=by generalize A.eval=ev at*;simp [execOp,hF,hcf,h0,go_sem]
  exact does_call h (hc.mono fun _ _ ⟨h,h'⟩=>⟨r,h,rfl,h'⟩)
theorem cl2 {F:FuncId}{at_:Array TypeId}{r:Value}{x0 x1:Operand}{u0 u1:Value}(hcf:∀(args:Array Value) (w:World),(callFunc F args).run prog w= .ok (.enter F args) w)(h0:A.eval x0=u0)(h1:A.eval x1=u1)
    (hc:Cr F #[u0,u1] w r):
    Does prog (Opr dst (.call {callee:= .value (.func F),args:=#[x0,x1],argTypes:=at_}) ty ps af gd) A w fun v' w'=>v'=r∧Bl w w':=by
  have hF:A.eval (.func F)= .func (.func F) #[] #[]:=rfl;have h:(execOp A.eval (Opr dst (.call {callee:= .value (.func F),args:=#[x0,x1],argTypes:=at_}) ty ps af gd)).run prog w= .ok (.enter F #[u0,u1]) w:=by generalize A.eval=ev at*;simp [execOp,hF,hcf,h0,h1,go_sem]
  exact does_call h (hc.mono fun _ _ ⟨h,h'⟩=>⟨r,h,rfl,h'⟩)
theorem cl3 {F:FuncId}{at_:Array TypeId}{r:Value}{x0 x1 x2:Operand}{u0 u1 u2:Value}(hcf:∀(args:Array Value) (w:World),(callFunc F args).run prog w= .ok (.enter F args) w)(h0:A.eval x0=u0)(h1:A.eval x1=u1)(h2:A.eval x2=u2)
    (hc:Cr F #[u0,u1,u2] w r):
    Does prog (Opr dst (.call {callee:= .value (.func F),args:=#[x0,x1,x2],argTypes:=at_}) ty ps af gd) A w fun v' w'=>v'=r∧Bl w w':=by
  have hF:A.eval (.func F)= .func (.func F) #[] #[]:=rfl;have h:(execOp A.eval (Opr dst (.call {callee:= .value (.func F),args:=#[x0,x1,x2],argTypes:=at_}) ty ps af gd)).run prog w= .ok (.enter F #[u0,u1,u2]) w:=by generalize A.eval=ev at*;simp [execOp,hF,hcf,h0,h1,h2,go_sem]
  exact does_call h (hc.mono fun _ _ ⟨h,h'⟩=>⟨r,h,rfl,h'⟩)
theorem cl4 {F:FuncId}{at_:Array TypeId}{r:Value}{x0 x1 x2 x3:Operand}{u0 u1 u2 u3:Value}(hcf:∀(args:Array Value) (w:World),(callFunc F args).run prog w= .ok (.enter F args) w)(h0:A.eval x0=u0)(h1:A.eval x1=u1)(h2:A.eval x2=u2)(h3:A.eval x3=u3)
    (hc:Cr F #[u0,u1,u2,u3] w r):
    Does prog (Opr dst (.call {callee:= .value (.func F),args:=#[x0,x1,x2,x3],argTypes:=at_}) ty ps af gd) A w fun v' w'=>v'=r∧Bl w w':=by
  have hF:A.eval (.func F)= .func (.func F) #[] #[]:=rfl;have h:(execOp A.eval (Opr dst (.call {callee:= .value (.func F),args:=#[x0,x1,x2,x3],argTypes:=at_}) ty ps af gd)).run prog w= .ok (.enter F #[u0,u1,u2,u3]) w:=by generalize A.eval=ev at*;simp [execOp,hF,hcf,h0,h1,h2,h3,go_sem]
  exact does_call h (hc.mono fun _ _ ⟨h,h'⟩=>⟨r,h,rfl,h'⟩)
theorem pu_cp {z0:Int}{z1:Int}{z2:Bool}(hx:A.eval x= .pointer (some ⟨b,0,none⟩))(hy:A.eval y= .agg #[int u64 z0,int u64 z1,.bool z2])(hr:w.heap[b]? =some (.cells #[int u64 0,int u64 0,.bool false] 101)):
    Does prog (Opr dst (.store 101 x y) ty ps af gd) A w fun _ w'=>Turned b (.cells #[int u64 z0,int u64 z1,.bool z2] 101) w w':=by
  have c0:w.cell? ⟨b,0,none⟩=some (int u64 0):=by simp [World.cell?,hr]
  have c1:w.cell? ⟨b,1,none⟩=some (int u64 0):=by simp [World.cell?,hr]
  have c2:w.cell? ⟨b,2,none⟩=some (.bool false):=by simp [World.cell?,hr]
  have hf:∀k,w.frozen? ⟨b,k,none⟩=false:=fun k=>by simp [World.frozen?,hr]
  have h:(execOp A.eval (Opr dst (.store 101 x y) ty ps af gd)).run prog w= .ok .skip (((w.setCell ⟨b,0,none⟩ (int u64 z0)).setCell ⟨b,1,none⟩ (int u64 z1)).setCell ⟨b,2,none⟩ (.bool z2)):=by generalize A.eval=ev at*;simp [execOp,hx,hy,hf,c0,c1,c2,go_sem]
  refine does_skip h ⟨rfl,rfl,rfl,by simp [World.setCell],by simp [World.setCell,Array.getElem?_modify,hr],fun k hk=> ?_⟩;simp [World.setCell,Array.getElem?_modify,Ne.symm hk]
end
end Go.Proofs.YtjhbckngdclleaaGreatDoor
