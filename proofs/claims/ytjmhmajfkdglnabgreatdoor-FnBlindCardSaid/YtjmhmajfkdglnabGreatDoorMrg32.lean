import Derived.Test.YtjmhmajfkdglnabGreatDoorMrg31
set_option linter.unusedVariables false
set_option maxRecDepth 100000
set_option maxHeartbeats 16000000
namespace Go.Proofs.YtjmhmajfkdglnabGreatDoor
open Go.Proofs.Tryz Go.RowKit
open Go.Value (int)
open Go.IntKind (u64)
section
variable {A:Act}{w:World}{dst:Option Tmp}{ty:TypeId}{ps:String}{af:Array Edge}{gd:Option (Nat×Bool)}{x y:Operand}{b i:Nat}
theorem al_evd:Does prog (Opr dst (.alloc 41) ty ps af gd) A w fun v w'=>v= .pointer (some ⟨w.heap.size,0,none⟩)∧w'=w.alloc (.cells #[.slice none 0 0,int u64 0,int u64 0] 41):=by
  have h:(execOp A.eval (Opr dst (.alloc 41) ty ps af gd)).run prog w= .ok (.value (.pointer (some ⟨w.heap.size,0,none⟩))) (w.alloc (.cells #[.slice none 0 0,int u64 0,int u64 0] 41)):=by simp [execOp,go_sem]
  exact does_value h ⟨rfl,rfl⟩
theorem pu_evd {s1:Option Addr}{n1 k1:Nat}{c1 d1:Int}(hx:A.eval x= .pointer (some ⟨b,0,none⟩))(hy:A.eval y= .agg #[.slice s1 n1 k1,int u64 c1,int u64 d1])(hr:w.heap[b]? =some (.cells #[.slice none 0 0,int u64 0,int u64 0] 41)):
    Does prog (Opr dst (.store 41 x y) ty ps af gd) A w fun _ w'=>Turned b (.cells #[.slice s1 n1 k1,int u64 c1,int u64 d1] 41) w w':=pu_any hx hy hr rfl size_evd (by kernel_rfl)
theorem rm_N {a:Nat}(hx:A.eval x=int u64 (a:Int))(ha:a<18446744073709551616):
    Does prog (Opr dst (.binOp .rem 23 x (.const (int u64 2305843010818082053)) 23) ty ps af gd) A w fun v' w'=>v'=int u64 ((a%2305843010818082053:Nat):Int)∧Bl w w':=by
  have hc:A.eval (.const (int u64 2305843010818082053))=int u64 2305843010818082053:=rfl;have e:((a:Int).tmod 2305843010818082053)=((a%2305843010818082053:Nat):Int):=by rw [Int.tmod_eq_emod_of_nonneg (by omega)];rfl
  have h:(execOp A.eval (Opr dst (.binOp .rem 23 x (.const (int u64 2305843010818082053)) 23) ty ps af gd)).run prog w= .ok (.value (int u64 ((a%2305843010818082053:Nat):Int))) w:=by
    rw [←e];generalize A.eval=ev at*;simp [execOp,hx,hc,go_sem]
  exact does_value h ⟨rfl,Below.refl _ _⟩
theorem cd5 {F:FuncId}{at_:Array TypeId}{U:Type}{Fv:U→Value}{R:U→World→Prop}{x0 x1 x2 x3 x4:Operand}{u0 u1 u2 u3 u4:Value}(hcf:∀(args:Array Value) (w:World),(callFunc F args).run prog w= .ok (.enter F args) w)(h0:A.eval x0=u0)(h1:A.eval x1=u1)(h2:A.eval x2=u2)(h3:A.eval x3=u3)(h4:A.eval x4=u4)
    (hc:Calls prog F #[u0,u1,u2,u3,u4] w fun e w'=>∃x,e= .returned (Fv x)∧R x w'∧Bl w w'):
    Does prog (Opr dst (.call {callee:= .value (.func F),args:=#[x0,x1,x2,x3,x4],argTypes:=at_}) ty ps af gd) A w fun v' w'=>∃x,v'=Fv x∧R x w'∧Bl w w':=by
  have hF:A.eval (.func F)= .func (.func F) #[] #[]:=rfl;have h:(execOp A.eval (Opr dst (.call {callee:= .value (.func F),args:=#[x0,x1,x2,x3,x4],argTypes:=at_}) ty ps af gd)).run prog w= .ok (.enter F #[u0,u1,u2,u3,u4]) w:=by generalize A.eval=ev at*;simp [execOp,hF,hcf,h0,h1,h2,h3,h4,go_sem]
  exact does_call h (hc.mono fun _ _ ⟨x,h,h'⟩=>⟨Fv x,h,x,rfl,h'⟩)
end
theorem cf_laws_wWord (args:Array Value)(w:World):(callFunc 14 args).run prog w= .ok (.enter 14 args) w:=by kernel_rfl
theorem cf_impl_Evaluate (args:Array Value)(w:World):(callFunc 13 args).run prog w= .ok (.enter 13 args) w:=by kernel_rfl
namespace G
def lateB (ops:Array Oper)(md:Region.Mode)(i0:Nat)(D:List Nat):Bool:=D.all fun d=>d==i0||(match ops[d]? with
  |none=>false
  |some o=>o.after.toList.any fun e=>Region.binds md e&&decide (e.on<d)&&D.contains e.on)
def Alike (k k':Knd)(D:List Nat):Prop:=k'=k∨∃ob o1 o2 m,k= .new ob o1 m∧k'= .new ob o2 m∧m∈D
section
variable {P:Program}{ops:Array Oper}{Q:Exit→Act→World→Prop}{md:Region.Mode}{U:Type}{kind:U→Nat→Knd}{a0:Act}{uses:Nat→List Nat}{S:List Nat}{W0:World}
theorem late_first {i0:Nat}{D:List Nat}(h:lateB ops md i0 D=true){l:Array Bool}(hC:∀j oj,ops[j]? =some oj→l.getD j false=true→∀e∈oj.after.toList,Region.binds md e=true→l.getD e.on false=true):∀n d,d<n→d∈D→l.getD d false=true→l.getD i0 false=true
  |0,d,hd,_,_=>by omega
  | n + 1,d,hd,hm,hl=>by
    have hx:=List.all_eq_true.1 h d hm;rw [Bool.or_eq_true] at hx;rcases hx with hx|hx
    · rw [←eq_of_beq hx];exact hl
    · cases ho:ops[d]? with
      |none=>rw [ho] at hx;cases hx
      | some o=>
        rw [ho] at hx;obtain⟨e,he,h2⟩:=List.any_eq_true.1 hx;simp only [Bool.and_eq_true,decide_eq_true_eq,List.contains_iff_mem] at h2;exact late_first h hC n e.on (by omega) h2.2 (hC d o ho hl e he h2.1.1)
theorem pinv_conv {u u':U}{i0:Nat}{D:List Nat}(hD:lateB ops md i0 D=true)(hsame:∀i,i∉D→Alike (kind u i) (kind u' i) D)(hsetS:∀i b ob ob',kind u' i= .set b ob ob'→kind u i= .set b ob ob'){l:Array Bool}{a:Act}{w:World}(hi0:l.getD i0 false=false)
    (hI:PInv S md ops (kind u) a0 W0 l a w):PInv S md ops (kind u') a0 W0 l a w:=by
  obtain⟨hs,f,rfl,hB,hN,hJ,hL,hC,hR,hZ⟩:=hI
  have hno:∀i,i∈D→l.getD i false=false:=fun i hm=>by
    cases hi:l.getD i false with
    |false=>rfl
    | true=>
      have:=late_first hD hC (i+1) i (by omega) hm hi;rw [hi0] at this;cases this
  have hx:∀i,l.getD i false=true→Alike (kind u i) (kind u' i) D:=fun i hi=>hsame i (fun hm=>by rw [hno i hm] at hi;cases hi)
  refine⟨hs,f,?_,hB,fun i ob ob' k hk hi=> ?_,fun i j hi hj hne h1 h2=>hJ i j hi hj hne ?_ ?_,fun k j hk hl=> ?_,hC,fun i F R hk hi=> ?_,fun i b ob ob' hk=>hZ i b ob ob' (hsetS i b ob ob' hk)⟩
  · unfold canon;simp only [Act.mk.injEq,and_true];apply Array.ext_getElem?;intro t;rw [Array.getElem?_mapIdx,Array.getElem?_mapIdx]
    cases a0.tmps[t]? with
    |none=>rfl
    | some v=>
      simp only [Option.map_some]
      cases ht:ownOf ops t with
      |none=>rfl
      | some j=>
        simp only;by_cases hl:l.getD j false=true
        · rw [if_pos hl,if_pos hl];unfold vl;rcases hx j hl with e|⟨ob,o1,o2,m,e1,e2,-⟩
          · rw [e]
          · rw [e1,e2]
        · rw [if_neg hl,if_neg hl]
  · rcases hx i hi with e|⟨ob2,o1,o2,m,e1,e2,hm⟩
    · exact hN i ob ob' k (by rw [←e];exact hk) hi
    · rw [e2] at hk;cases hk;have:=hN i ob o1 k e1 hi;rw [hno k hm] at this⊢;exact this
  · obtain⟨ob,ob',k,h1⟩:=h1;rcases hx i hi with e|⟨ob2,o1,o2,m,e1,e2,hm⟩
    · exact⟨ob,ob',k,by rw [←e];exact h1⟩
    · exact⟨_,_,_,e1⟩
  · obtain⟨ob,ob',k,h2⟩:=h2;rcases hx j hj with e|⟨ob2,o1,o2,m,e1,e2,hm⟩
    · exact⟨ob,ob',k,by rw [←e];exact h2⟩
    · exact⟨_,_,_,e1⟩
  · rcases hx k hl with e|⟨ob2,o1,o2,m,e1,e2,hm⟩
    · exact hL k j (by rw [←e];exact hk) hl
    · rw [e2] at hk;cases hk
  · rcases hx i hi with e|⟨ob2,o1,o2,m,e1,e2,hm⟩
    · exact hR i F R (by rw [←e];exact hk) hi
    · rw [e2] at hk;cases hk
theorem pinv_got {knd:Nat→Knd}{V:Value}{R:World→Prop}(hok:okOps ops a0 md uses=true)
    (hkk:∀j ob ob' k,knd j= .new ob ob' k→k<ops.size→knd k= .put j)(hlast:Last knd){l:Array Bool}{a:Act}{w w':World}{i:Nat}{o:Oper}(ho:ops[i]? =some o)(hsb:∀i b ob ob',knd i= .set b ob ob'→b<W0.heap.size)
    (hk:knd i= .got (fun _=>V) (fun _ w=>R w))(hI:PInv S md ops knd a0 W0 l a w)(hi:i∈Region.ready md ops l)(hR0:R w')(hb:Bl w w'):PInv S md ops knd a0 W0 (l.setIfInBounds i true) (a.put o.dst V) w':=by
  obtain⟨hs,f,rfl,hB,hN,hJ,hL,hC,hR,hZ⟩:=hI;obtain⟨hil,hif,-,o2,ho2,hedge⟩:=ready_get hi;obtain rfl:o2=o:=by rw [ho2] at ho;exact Option.some.inj ho
  have hC':∀j oj,ops[j]? =some oj→(l.setIfInBounds i true).getD j false=true→∀e∈oj.after.toList,Region.binds md e=true→(l.setIfInBounds i true).getD e.on false=true:=fun j oj hoj hlj e he hb=>by
    rw [getD_set l i j hil] at hlj;rw [getD_set l i e.on hil];by_cases hji:j=i
    · subst hji;rw [ho] at hoj;cases hoj;split
      · rfl
      · exact hedge e he hb
    · rw [if_neg hji] at hlj;split
      · rfl
      · exact hC j oj hoj hlj e he hb
  refine⟨by simpa using hs,f,?_,hB.step hb,?_,?_,?_,hC',fun j F R' hj hlj=> ?_,?_⟩
  · have:=canon_put hok ho l hil f f (fun _ _=>rfl) (kind:=knd) (.inr hif);rw [←this];unfold vl;rw [hk]
  · intro j ob ob' k hj hlj;have hji:j≠i:=by rintro rfl;rw [hk] at hj;cases hj
    rw [getD_set l i j hil,if_neg hji] at hlj;obtain⟨h1,h2,h3⟩:=hN j ob ob' k hj hlj;refine⟨h1,Nat.lt_of_lt_of_le h2 hb.size,(hb.block _ h2).trans (h3.trans ?_)⟩;rw [getD_set l i k hil];by_cases hki:k=i
    · have:=hkk j ob ob' k hj (by omega);rw [hki,hk] at this;cases this
    · rw [if_neg hki]
  · intro j1 j2 h1 h2 hne k1 k2;have e1:j1≠i:=by rintro rfl;obtain⟨_,_,_,h⟩:=k1;rw [hk] at h;cases h
    have e2:j2≠i:=by rintro rfl;obtain⟨_,_,_,h⟩:=k2;rw [hk] at h;cases h
    rw [getD_set l i j1 hil,if_neg e1] at h1;rw [getD_set l i j2 hil,if_neg e2] at h2;exact hJ j1 j2 h1 h2 hne k1 k2
  · intro k j hkj h1;have e1:k≠i:=by rintro rfl;rw [hk] at hkj;cases hkj
    rw [getD_set l i k hil,if_neg e1] at h1;have:=hL k j hkj h1;rw [getD_set l i j hil,this];split<;>rfl
  · by_cases hji:j=i
    · subst hji;rw [hk] at hj;cases hj;exact hR0
    · rw [getD_set l i j hil,if_neg hji] at hlj;exact(hlast j F R' hj).1 _ _ _ (hR j F R' hj hlj) hb
  · intro j b ob ob' hj;have hji:j≠i:=by rintro rfl;rw [hk] at hj;cases hj
    rw [getD_set l i j hil,if_neg hji,hb.block b (Nat.lt_of_lt_of_le (hsb j b ob ob' hj) hB.size)];exact hZ j b ob ob' hj
def Ob0 (S:List Nat)(P:Program)(ops:Array Oper)(knd:Nat→Knd)(uses:Nat→List Nat)(a0:Act)(W0:World)(i:Nat)(V:U→Value)(R:U→World→Prop):Prop:=∀o,ops[i]? =some o→
  ∀(f:Nat→Nat) (A:Act) (w:World),(∀t∈uses i,A.eval (.tmp t)=look ops knd a0 f i t)→Sides S W0 w→(∀t∈uses i,∀j,ownOf ops t=some j→j<i→∀ob k,knd j= .new ob ob k→w.heap[f j]? =some ob)→Does P o A w fun v' w'=>∃u,v'=V u∧R u w'∧Bl w w'
theorem pinv_dep {u0:U}{i0:Nat}{D:List Nat}{V:U→Value}{R:U→World→Prop}(hok:okOps ops a0 md uses=true)(hG:okG ops (kind u0) md=true)
    (hkk:∀u j ob ob' k,kind u j= .new ob ob' k→k<ops.size→kind u k= .put j)(hlast:∀u,Last (kind u))(hsb:∀u i b ob ob',kind u i= .set b ob ob'→b<W0.heap.size)
    (hD:lateB ops md i0 D=true)(hsame:∀u i,i∉D→Alike (kind u0 i) (kind u i) D)(hsetS:∀u i b ob ob',kind u i= .set b ob ob'→kind u0 i= .set b ob ob')(hk0:∀u,kind u i0= .got (fun _=>V u) (fun _ w=>R u w))
    (hob0:Ob0 S P ops (kind u0) uses a0 W0 i0 V R){l:Array Bool}{a:Act}{w:World}
    (hI:PInv S md ops (kind u0) a0 W0 l a w)(hi:i0∈Region.ready md ops l):wpOp P ops Q i0 (fun a w=>∃u,PInv S md ops (kind u) a0 W0 (l.setIfInBounds i0 true) a w) a w:=by
  have hI0:=hI;obtain⟨hs,f,rfl,hB,hN,hJ,hL,hC,hR,hZ⟩:=hI;obtain⟨hil,hif,-,o,ho,hedge⟩:=ready_get hi;obtain⟨hdst,huse⟩:=okOps_at hok ho
  have hA :∀t∈uses i0,(canon ops (kind u0) a0 l f).eval (.tmp t)=look ops (kind u0) a0 f i0 t:=fun t ht=>canon_tmp l f i0 t fun j hj=>by
    refine⟨?_,?_⟩
    · rcases huse t ht j hj with ⟨hji,e,he,h1,h2⟩|hji|⟨hji,oj,hoj,e,he,h1,h2⟩
      · rw [decide_eq_true hji];exact h1▸hedge e he h2
      · subst hji;rw [hif];simp
      · rw [decide_eq_false (by omega)]
        cases hlj:l.getD j false with
        |false=>rfl
        | true=>
          have:=hC j oj hoj hlj e he h2;rw [h1,hif] at this;cases this
    have h3:=own_dst hj
    cases h4:ops[j]? with
    |none=>rw [h4] at h3;cases h3
    | some o2=>
      rw [h4] at h3;exact((okOps_at hok h4).1 t h3).2
  have hw:=wanted_of (kind:=kind u0) hok hG ho l f hedge;unfold wpOp;simp only [ho,hw,if_true];left;refine hob0 o ho f _ w hA hB (fun t ht j hj hji ob k hkj=> ?_) _ _ ?_
  · obtain⟨e,he,h1,h2⟩:∃e∈o.after.toList,e.on=j∧Region.binds md e=true:=by
      rcases huse t ht j hj with ⟨-,h⟩|h|⟨h,-⟩
      · exact h
      · omega
      · omega
    have:=(hN j ob ob k hkj (h1▸hedge e he h2)).2.2;rwa [ite_self] at this
  · rintro v' w' ⟨u,rfl,hRu,hb⟩;exact⟨u,pinv_got hok (hkk u) (hlast u) ho (hsb u) (hk0 u) (pinv_conv hD (hsame u) (hsetS u) hif hI0) hi hRu hb⟩
theorem pool_dep {u0:U}{i0:Nat}{D:List Nat}{V:U→Value}{R:U→World→Prop}(hok:okOps ops a0 md uses=true)(hG:∀u,okG ops (kind u) md=true)(hdag:dagB md ops=true)(hi0:i0<ops.size)
    (hkk:∀u j ob ob' k,kind u j= .new ob ob' k→k<ops.size→kind u k= .put j)(hlast:∀u,Last (kind u))(hset:∀u i b ob ob',kind u i= .set b ob ob'→W0.heap[b]? =some ob)
    (hD:lateB ops md i0 D=true)(hsame:∀u i,i∉D→Alike (kind u0 i) (kind u i) D)(hsetS:∀u i b ob ob',kind u i= .set b ob ob'→kind u0 i= .set b ob ob')(hk0:∀u,kind u i0= .got (fun _=>V u) (fun _ w=>R u w))
    (hob0:Ob0 S P ops (kind u0) uses a0 W0 i0 V R)(hob:∀u i,i<ops.size→i≠i0→Ob S P ops (kind u) uses a0 W0 i)
    (fin:∀(u:U) (f:Nat→Nat) (w:World),Sides S W0 w→
      (∀i ob ob' k,kind u i= .new ob ob' k→i<ops.size→W0.heap.size≤f i∧w.heap[f i]? =some (if k<ops.size then ob' else ob))→
      R u w→(∀i b ob ob',kind u i= .set b ob ob'→i<ops.size→w.heap[b]? =some ob')→
      Q .normal (canonAll ops (kind u) a0 f) w):
    wpAny P md ops Q ops.size (Array.replicate ops.size false) a0 W0:=by
  have hsb:∀u i b ob ob',kind u i= .set b ob ob'→b<W0.heap.size:=fun u i b ob ob' h=>(Array.getElem?_eq_some_iff.1 (hset u i b ob ob' h)).1
  refine any_inv (fun l a w=>(l.getD i0 false=false∧PInv S md ops (kind u0) a0 W0 l a w)∨(l.getD i0 false=true∧∃u,PInv S md ops (kind u) a0 W0 l a w)) ?fin ?step _ _ _ _ ?cnt ?start
  case cnt=>simp
  case start=>
    refine .inl ⟨?_,pinv_start W0 (hset u0)⟩;rw [Array.getD_eq_getD_getElem?,Array.getElem?_replicate];split<;>rfl
  case step=>
    intro l a w i hI hi;obtain⟨hil,hif,-,o,ho,-⟩:=ready_get hi;have hlt:=(Array.getElem?_eq_some_iff.1 ho).1;rcases hI with ⟨h0,hI⟩|⟨h0,u,hI⟩
    · by_cases hii:i=i0
      · subst hii;refine wpOp_mono ?_ (pinv_dep hok (hG u0) hkk hlast hsb hD hsame hsetS hk0 hob0 hI hi);rintro a w ⟨u,h⟩;exact .inr ⟨by rw [getD_set l i i hil,if_pos rfl],u,h⟩
      · refine wpOp_mono ?_ (pinv_step hok (hG u0) (hkk u0) (hlast u0) (hsb u0) (hob u0 i hlt hii) hI hi);intro a w h;exact .inl ⟨by rw [getD_set l i i0 hil,if_neg (fun e=>hii e.symm)];exact h0,h⟩
    · have hii:i≠i0:=by rintro rfl;rw [hif] at h0;cases h0
      refine wpOp_mono ?_ (pinv_step hok (hG u) (hkk u) (hlast u) (hsb u) (hob u i hlt hii) hI hi);intro a w h;exact .inr ⟨by rw [getD_set l i i0 hil,if_neg (fun e=>hii e.symm)];exact h0,u,h⟩
  case fin=>
    rintro l a w hI hr
    have key:∀u,PInv S md ops (kind u) a0 W0 l a w→Q .normal a w:=by
      rintro u ⟨hs,f,rfl,hB,hN,hJ,-,-,hR,hZ⟩;have hall:∀i,i<ops.size→l.getD i false=true:=fun i hi=>all_listedB hdag l hs hr (i+1) i (by omega) hi
      have hc:canon ops (kind u) a0 l f=canonAll ops (kind u) a0 f:=by
        unfold canon canonAll;simp only [Act.mk.injEq,and_true];apply Array.ext_getElem?;intro t;rw [Array.getElem?_mapIdx,Array.getElem?_mapIdx]
        cases a0.tmps[t]? with
        |none=>rfl
        | some v=>
          simp only [Option.map_some]
          cases ht:ownOf ops t with
          |none=>rfl
          |some j=>simp only [hall j (own_lt ht),if_true]
      rw [hc]
      refine fin u f w hB (fun i ob ob' k hk hi=> ?_) (hR i0 _ _ (hk0 u) (hall i0 hi0)) (fun i b ob ob' hk hi=>by
        have:=hZ i b ob ob' hk
        rwa [if_pos (hall i hi)] at this)
      obtain⟨h1,-,h3⟩:=hN i ob ob' k hk (hall i hi);refine⟨h1,h3.trans ?_⟩;by_cases hkl:k<ops.size
      · rw [if_pos (hall k hkl),if_pos hkl]
      · have:l.getD k false=false:=by rw [Array.getD_eq_getD_getElem?,Array.getElem?_eq_none (by omega)];rfl
        rw [this,if_neg hkl];rfl
    rcases hI with ⟨-,hI⟩|⟨-,u,hI⟩
    · exact key u0 hI
    · exact key u hI
theorem dep_list (S:List Nat){id:Nat}{W:World}(u0:U)(i0:Nat)(D:List Nat)(V:U→Value)(R:U→World→Prop)(kinds:U→List Knd)(us:List (List Nat))(dl:U→(Nat→Nat)→List (Option Tmp×Value))(hm:P.follows .mixedOrders=true)(hok:okOps ops a0 .any (usesOf us)=true)(hG:∀u,okG ops (kindOf (kinds u)) .any=true)(hdag:dagB .any ops=true)(hi0:decide (i0<ops.size)=true)(hkk:∀u,okK (kinds u) ops.size=true)
    (hdl:∀u f,((List.range ops.size).map fun i=>((ops[i]?).bind (·.dst),vl (kindOf (kinds u)) f i))=dl u f)(hlast:∀u,Last (kindOf (kinds u)))(hset:∀u b ob ob',Knd.set b ob ob'∈kinds u→W.drew.heap[b]? =some ob)
    (hD:lateB ops .any i0 D=true)(hsame:∀u i,i∉D→Alike (kindOf (kinds u0) i) (kindOf (kinds u) i) D)(hsetS:∀u i b ob ob',kindOf (kinds u) i= .set b ob ob'→kindOf (kinds u0) i= .set b ob ob')(hk0:∀u,kindOf (kinds u) i0= .got (fun _=>V u) (fun _ w=>R u w))
    (hob0:Ob0 S P ops (kindOf (kinds u0)) (usesOf us) a0 W.drew i0 V R)(hob:∀u i,i<ops.size→i≠i0→Ob S P ops (kindOf (kinds u)) (usesOf us) a0 W.drew i)
    (fin:∀(u:U) (f:Nat→Nat) (w:World),Sides S W.drew w→
      (∀i ob ob' k,kindOf (kinds u) i= .new ob ob' k→i<ops.size→W.drew.heap.size≤f i∧w.heap[f i]? =some (if k<ops.size then ob' else ob))→
      R u w→(∀i b ob ob',kindOf (kinds u) i= .set b ob ob'→i<ops.size→w.heap[b]? =some ob')→
      Q .normal (puts (dl u f) a0) w):
    (Code.region id ops true).wp P Q a0 W:=
  wp_region_any hm (pool_dep (kind:=fun u=>kindOf (kinds u)) (u0:=u0) (D:=D) hok hG hdag (of_decide_eq_true hi0) (fun u=>okK_is (hkk u)) hlast (fun u=>set_of (hset u)) hD hsame hsetS hk0 hob0 hob fun u f w h1 h2 h4 h5=>by
    rw [canonAll_puts hok f,hdl u f]
    exact fin u f w h1 h2 h4 h5)
theorem ob0_use {knd:Nat→Knd}{V:U→Value}{R:U→World→Prop}{i:Nat}{o:Oper}(t j k:Nat)(ob:Obj)(ins:(Nat→Nat)→List (Nat×Value))(ho:ops[i]? =some o)(ht:t∈uses i)(hown:ownOf ops t=some j)(hkj:knd j= .new ob ob k)
    (hi:∀f,(uses i).map (fun t=>(t,look ops knd a0 f i t))=ins f)
    (h:∀f A w,Evs A (ins f)→Sides S W0 w→w.heap[f j]? =some ob→Does P o A w fun v' w'=>∃u,v'=V u∧R u w'∧Bl w w')(hji:decide (j<i)=true:=by decide):Ob0 S P ops knd uses a0 W0 i V R:=by
  intro o' ho' f A w hA hB hu;rw [ho] at ho';cases ho';exact h f A w (hi f▸evs_of _ hA) hB (hu t ht j hown (of_decide_eq_true hji) ob k hkj)
theorem last_one {kinds:List Knd}(R:World→Prop)(h:∀F R',Knd.got F R'∈kinds→R'=fun _ w=>R w)(hbel:∀w w',R w→Bl w w'→R w')
    (htur:∀w w' b ob ob',(∃k,Knd.new ob ob' k∈kinds)→R w→w.heap[b]? =some ob→Turned b ob' w w'→R w')(hns:∀b ob ob',Knd.set b ob ob'∉kinds):Last (kindOf kinds):=by
  intro i F R' hk;have e:=h F R' (kind_mem hk (by simp));subst e;refine⟨fun _ w w' hR hb=>hbel w w' hR hb,fun _ w w' b j ob ob' hj hR hb hT=> ?_⟩;rcases hj with ⟨k,hj⟩|hj
  · exact htur w w' b ob ob' ⟨k,kind_mem hj (by simp)⟩ hR hb hT
  · exact absurd (kind_mem hj (by simp)) (hns b ob ob')
end
theorem own_turn {w w':World}{B:Nat}{e:TypeId}{s:Nat}{v:Value}{n:Nat}{xs:List Value}{b:Nat}{ob ob':Obj}(h:w.ownsRow B e s v n xs)(hb:w.heap[b]? =some ob)(hT:Turned b ob' w w')(hor:ob=ob'∨∃cs t,ob= .cells cs t∧t≠e):w'.ownsRow B e s v n xs:=by
  refine⟨h.1,?_⟩;rcases h.2 with h2|⟨g,cap,cur,rfl,hbg,hg,hr⟩
  · exact .inl h2
  · refine .inr ⟨g,cap,cur,rfl,hbg,?_,hr⟩;by_cases hgb:g=b
    · subst hgb;rcases hor with rfl|⟨cs,t,rfl,ht⟩
      · rw [hT.self,←hb];exact hg
      · rw [hg] at hb;injection hb with hb;injection hb with _ h3;exact absurd h3.symm ht
    · rw [hT.other g hgb];exact hg
end G
end Go.Proofs.YtjmhmajfkdglnabGreatDoor
namespace Go.Proofs.YtjmhmajfkdglnabGreatDoor
open Go.Proofs.Tryz Go.RowKit
open Go.Value (int)
open Go.IntKind (u64)
open Go.RowKit M
namespace fnBlind
theorem walk_of (a0 a1:Option Addr)(l0 cap0 l1 cap1:Nat)(key k2 r9 r2:Nat)(x0 y0:Int)(z0:Bool)(w:World)(hl0: ¬ (1048576:Int)<(l0:Int))(hl1: ¬ (1048576:Int)<(l1:Int))(lr9:r9<18446744073709551616)(lr2:r2<18446744073709551616)
    (DB:Calls prog 5 #[.slice a0 l0 cap0] w fun e w'=>(∃(m:Int) (s t:ByteArray) (x y:Int) (c:Bool) (k:Nat),s.size≤65537∧t.size≤65537∧k<18446744073709551616∧e= .returned (.tuple #[.int .i64 m,.string s,.string t,.agg #[int u64 x,int u64 y,.bool c],int u64 k]))∧Bl w w')
    (K0:(∀w',Bl w w'→Calls prog 6 #[.slice a1 l1 cap1,.int .i64 0] w' fun e w''=>e= .returned (int u64 (key:Int))∧w'=w''))(K5:(∀w',Bl w w'→Calls prog 6 #[.slice a1 l1 cap1,.int .i64 5] w' fun e w''=>e= .returned (int u64 (k2:Int))∧w'=w''))(W9:(∀w',Bl w w'→Calls prog 14 #[.slice a1 l1 cap1,.int .i64 9] w' fun e w''=>e= .returned (int u64 (r9:Int))∧w'=w''))(W2:(∀w',Bl w w'→Calls prog 14 #[.slice a1 l1 cap1,.int .i64 2] w' fun e w''=>e= .returned (int u64 (r2:Int))∧w'=w''))
    (TM:Cc 7 #[int u64 (key:Int),.agg #[int u64 (px gG),int u64 (py gG),.bool (pb gG)]] (.agg #[int u64 x0,int u64 y0,.bool z0]))
    (H:∀(m:Int) (s t:ByteArray) (k:Nat),s.size≤65537→t.size≤65537→k<18446744073709551616→∃(c1 c2 b0 b1 b3 b4:Int) (b2 b5:Bool) (o:ByteArray),(Cb w 9 #[.int .i64 m,.string s,.string t,.agg #[int u64 x0,int u64 y0,.bool z0],int u64 (k:Int)] (.tuple #[.agg #[int u64 b0,int u64 b1,.bool b2,int u64 b3,int u64 b4,.bool b5],.int .i64 c1]))∧(Cb w 10 #[.int .i64 m,int u64 (key:Int),.string s,.string t] (.tuple #[.string o,.int .i64 c2]))∧(Cb w 11 #[.int .i64 m,.string s,.string t,.agg #[int u64 x0,int u64 y0,.bool z0],int u64 (k:Int)] (.tuple #[.agg #[int u64 b0,int u64 b1,.bool b2,int u64 b3,int u64 b4,.bool b5],.int .i64 c1]))∧(Cb w 12 #[.int .i64 m,int u64 (key:Int),.string s,.string t] (.tuple #[.string o,.int .i64 c2]))∧(¬ c1=0∨(c1=0∧((¬ c2=0∧(∀w' g,Bl w w'→Bk w' 25 g #[int u64 b0,int u64 b1,.bool b2]→Cr 13 #[.int .i64 m,int u64 (key:Int),.string t,.slice (some ⟨g,0,none⟩) 1 1,int u64 ((r9%2305843010818082053:Nat):Int)] w' (.tuple #[.agg #[.slice none 0 0,int u64 0,int u64 0],.int .i64 c2])))∨(c2=0∧o.size=32∧∃(pc ps pc2 ps2 d0 d1 d3 d4:Int) (d2 d5:Bool) (xs xs2:List Value),(∀w' g,Bl w w'→Bk w' 25 g #[int u64 b0,int u64 b1,.bool b2]→Calls prog 13 #[.int .i64 m,int u64 (key:Int),.string t,.slice (some ⟨g,0,none⟩) 1 1,int u64 ((r9%2305843010818082053:Nat):Int)] w' fun e w''=>∃u:Nat×Nat,e= .returned (.tuple #[.agg #[.slice (some ⟨u.1,0,none⟩) 1 u.2,int u64 pc,int u64 ps],.int .i64 0])∧w''.ownsRow w.heap.size 25 3 (.slice (some ⟨u.1,0,none⟩) 1 u.2) 1 xs∧Bl w' w'')∧(∀w' (u:Nat×Nat),Bl w w'→w'.ownsRow w.heap.size 25 3 (.slice (some ⟨u.1,0,none⟩) 1 u.2) 1 xs→Cr 15 #[.int .i64 m,.string s,.string t,int u64 (k:Int),.agg #[.slice (some ⟨u.1,0,none⟩) 1 u.2,int u64 pc,int u64 ps],.agg #[int u64 b0,int u64 b1,.bool b2,int u64 b3,int u64 b4,.bool b5],.agg #[int u64 x0,int u64 y0,.bool z0]] w' (.tuple #[.string o,.int .i64 0]))∧(Cb w 11 #[.int .i64 m,.string s,.string t,.agg #[int u64 x0,int u64 y0,.bool z0],int u64 (k2:Int)] (.tuple #[.agg #[int u64 d0,int u64 d1,.bool d2,int u64 d3,int u64 d4,.bool d5],.int .i64 0]))∧(∀w' g,Bl w w'→Bk w' 25 g #[int u64 d0,int u64 d1,.bool d2]→Calls prog 13 #[.int .i64 m,int u64 (key:Int),.string t,.slice (some ⟨g,0,none⟩) 1 1,int u64 ((r2%2305843010818082053:Nat):Int)] w' fun e w''=>∃u:Nat×Nat,e= .returned (.tuple #[.agg #[.slice (some ⟨u.1,0,none⟩) 1 u.2,int u64 pc2,int u64 ps2],.int .i64 0])∧w''.ownsRow w.heap.size 25 3 (.slice (some ⟨u.1,0,none⟩) 1 u.2) 1 xs2∧Bl w' w'')∧(∀w' (u:Nat×Nat),Bl w w'→w'.ownsRow w.heap.size 25 3 (.slice (some ⟨u.1,0,none⟩) 1 u.2) 1 xs2→Cr 15 #[.int .i64 m,.string s,.string t,int u64 (k2:Int),.agg #[.slice (some ⟨u.1,0,none⟩) 1 u.2,int u64 pc2,int u64 ps2],.agg #[int u64 d0,int u64 d1,.bool d2,int u64 d3,int u64 d4,.bool d5],.agg #[int u64 x0,int u64 y0,.bool z0]] w' (.tuple #[.string o,.int .i64 0]))))))):
    Cr 3 #[.slice a0 l0 cap0,.slice a1 l1 cap1] w (.bool true):=by
  go_enter func3,ntmps3;go_wp2_with fail;refine DB.mono ?_;rintro e w1 ⟨⟨m,s,t,x,y,c,k,hs,ht,hk,rfl⟩,hb⟩;obtain⟨c1,c2,b0,b1,b3,b4,b2,b5,o,SB,SD,IB,ID,H⟩:=H m s t k hs ht hk;replace hb:=hb.alloc hb.size (Obj.cells #[int u64 x,int u64 y,.bool c] 25);clear DB hs ht hk;go_wp2_with fail;refine(K0 _ hb).mono ?_;rintro e w' ⟨rfl,rfl⟩;clear K0;go_wp2_with fail;refine(bsG _).mono ?_;rintro e w2 ⟨rfl,b⟩;replace hb:=hb.tr b;clear b;go_wp2_with fail;refine(TM _).mono ?_;rintro e w3 ⟨rfl,b⟩;replace hb:=hb.tr b;have r11:=Bk.new w3 25 #[int u64 x0,int u64 y0,.bool z0];replace hb:=hb.alloc hb.size (Obj.cells #[int u64 x0,int u64 y0,.bool z0] 25);clear b TM;have p0:=r11.cell (k:=0) rfl;have p1:=r11.cell (k:=1) rfl;have p2:=r11.cell (k:=2) rfl;go_wp2_with fail;refine(SB _ hb).mono ?_;rintro e w4 ⟨rfl,b⟩;have hal:=balc w4 (Obj.cells #[int u64 b0,int u64 b1,.bool b2,int u64 b3,int u64 b4,.bool b5] 32);replace hb:=hb.tr b;replace hb:=hb.tr hal;replace r11:=(r11.keep b).keep hal;clear b hal SB p0 p1 p2;go_wp2_with fail;refine(SD _ hb).mono ?_;rintro e w5 ⟨rfl,b⟩;replace hb:=hb.tr b;replace r11:=r11.keep b;clear b SD;have p0:=r11.cell (k:=0) rfl;have p1:=r11.cell (k:=1) rfl;have p2:=r11.cell (k:=2) rfl;go_wp2_with fail;refine(IB _ hb).mono ?_;rintro e w6 ⟨rfl,b⟩;have hal:=balc w6 (Obj.cells #[int u64 b0,int u64 b1,.bool b2,int u64 b3,int u64 b4,.bool b5] 32);have r16:=Bk.new w6 32 #[int u64 b0,int u64 b1,.bool b2,int u64 b3,int u64 b4,.bool b5];replace hb:=hb.tr b;replace hb:=hb.tr hal;replace r11:=(r11.keep b).keep hal;clear b hal IB p0 p1 p2;go_wp2_with fail;refine(ID _ hb).mono ?_;rintro e W8 ⟨rfl,b⟩;replace hb:=hb.tr b;replace r11:=r11.keep b;replace r16:=r16.keep b;clear b ID;rcases H with hc1|⟨rfl,H⟩
  · go_wp2;go_ret;exact⟨rfl,hb⟩
  generalize w6.heap.size=BB at*;generalize w3.heap.size=BP at*;have hbD:∀w',G.Sides [] W8.drew w'→Bl w w':=fun w' h=>hb.drew.trans (h.below.mono hb.size)
  have WW':∀w',G.Sides [] W8.drew w'→Cr 14 #[.slice a1 l1 cap1,.int .i64 9] w' (int u64 (r9:Int)):=fun w' h=>(W9 w' (hbD w' h)).mono (by
    rintro e w'' ⟨rfl,rfl⟩
    exact⟨rfl,Below.refl _ _⟩)
  obtain⟨WL,hWL⟩:∃WL,WL=w.heap.size:=⟨_,rfl⟩;rcases H with ⟨hc2,EV⟩|⟨rfl,ho,pc,ps,pc2,ps2,d0,d1,d3,d4,d2,d5,xs,xs2,EV,FI,IB2,EV2,FI2⟩
  · have EV':∀(w':World) (g:Nat),G.Sides [] W8.drew w'→w'.heap[g]? =some (Obj.cells #[int u64 b0,int u64 b1,.bool b2] 25)→_:=fun w' g h hg=>EV w' g (hbD w' h) hg
    clear hWL;go_wp2;have q0:W8.drew.cell? ⟨BB,0,none⟩=_:=r16.cell (k:=0) rfl;have q1:W8.drew.cell? ⟨BB,1,none⟩=_:=r16.cell (k:=1) rfl;have q2:W8.drew.cell? ⟨BB,2,none⟩=_:=r16.cell (k:=2) rfl
    refine G.pool_list (W:=W8) [] [.val (.int .i64 m),
        .val (int u64 (key:Int)),
        .val (.string t),
        .val (.pointer (some ⟨BB,0,none⟩)),
        .val (.agg #[int u64 b0,int u64 b1,.bool b2]),
        .new (.cells #[int u64 b0,int u64 b1,.bool b2] 25) (.cells #[int u64 b0,int u64 b1,.bool b2] 25) 1001,
        .val (.slice a1 l1 cap1),
        .val (int u64 (r9:Int)),
        .val (int u64 ((r9%2305843010818082053:Nat):Int)),
        .val (.tuple #[.agg #[.slice none 0 0,int u64 0,int u64 0],.int .i64 c2]),
        .val (.tuple #[.agg #[.slice none 0 0,int u64 0,int u64 0],.int .i64 c2]),
        .val (.agg #[.slice none 0 0,int u64 0,int u64 0]),
        .val (.int .i64 c2),
        .new (.cells #[.slice none 0 0,int u64 0,int u64 0] 41) (.cells #[.slice none 0 0,int u64 0,int u64 0] 41) 14,
        .put 13,
        .val (.int .i64 c2)] [[5],[10],[7],[16],[98],[99],[1],[101],[102],[95,96,97,100,103],[104],[94],[94],[],[20,105],[106]] (fun f=> [(some 95,.int .i64 m),(some 96,int u64 (key:Int)),(some 97,.string t),(some 98,.pointer (some ⟨BB,0,none⟩)),(some 99,.agg #[int u64 b0,int u64 b1,.bool b2]),(some 100,.slice (some ⟨f 5,0,none⟩) 1 1),(some 101,.slice a1 l1 cap1),(some 102,int u64 (r9:Int)),(some 103,int u64 ((r9%2305843010818082053:Nat):Int)),(some 104,.tuple #[.agg #[.slice none 0 0,int u64 0,int u64 0],.int .i64 c2]),(some 94,.tuple #[.agg #[.slice none 0 0,int u64 0,int u64 0],.int .i64 c2]),(some 105,.agg #[.slice none 0 0,int u64 0,int u64 0]),(some 106,.int .i64 c2),(some 20,.pointer (some ⟨f 13,0,none⟩)),(none,undef),(some 21,.int .i64 c2)]) (by kernel_rfl) (by kernel_rfl) (by kernel_rfl) (by kernel_rfl) (fun _=>by kernel_rfl) (G.last_of [.cells #[int u64 b0,int u64 b1,.bool b2] 25,.cells #[.slice none 0 0,int u64 0,int u64 0] 41] (fun F R hm=>by simp at hm) (fun ob ob' k hm=>by simp at hm;rcases hm with h|h<;>simp [h]) (fun b ob ob' hm=>by simp at hm)) (fun b ob ob' hm=>by simp at hm) ?_ ?_
    · intro ix hix
      match ix,hix with
      |0,_=>exact G.obv [(5,.int .i64 m)] rfl rfl (fun A w ⟨e0,_⟩ hB=>doV_move e0)
      |1,_=>exact G.obv [(10,int u64 (key:Int))] rfl rfl (fun A w ⟨e0,_⟩ hB=>doV_move e0)
      |2,_=>exact G.obv [(7,.string t)] rfl rfl (fun A w ⟨e0,_⟩ hB=>doV_move e0)
      |3,_=>exact G.obv [(16,.pointer (some ⟨BB,0,none⟩))] rfl rfl (fun A w ⟨e0,_⟩ hB=>fa_bld0 e0)
      |4,_=>exact G.obv [(98,.pointer (some ⟨BB,0,none⟩))] rfl rfl (fun A w ⟨e0,_⟩ hB=>ld_pt e0 (hB.cell q0 (by simp)) (hB.cell q1 (by simp)) (hB.cell q2 (by simp)))
      |5,_=>exact G.ob_slc 1 [(99,.agg #[int u64 b0,int u64 b1,.bool b2])] rfl rfl (fun _=>by kernel_rfl) (fun A w ⟨e0,_⟩=>sl_pts1 e0)
      |6,_=>exact G.obv [(1,.slice a1 l1 cap1)] rfl rfl (fun A w ⟨e0,_⟩ hB=>doV_move e0)
      |7,_=>exact G.obv [(101,.slice a1 l1 cap1)] rfl rfl (fun A w ⟨e0,_⟩ hB=>cl2 cf_laws_wWord e0 rfl (WW' w hB))
      |8,_=>exact G.obv [(102,int u64 (r9:Int))] rfl rfl (fun A w ⟨e0,_⟩ hB=>rm_N e0 lr9)
      |9,_=>exact G.ob_use 100 5 1001 (.cells #[int u64 b0,int u64 b1,.bool b2] 25) (fun f=> [(95,.int .i64 m),(96,int u64 (key:Int)),(97,.string t),(100,.slice (some ⟨f 5,0,none⟩) 1 1),(103,int u64 ((r9%2305843010818082053:Nat):Int))]) rfl rfl (by decide) (by kernel_rfl) rfl (fun _=>by kernel_rfl) (fun f A w ⟨e0,e1,e2,e3,e4,_⟩ hB hr=>cl5 cf_impl_Evaluate e0 e1 e2 e3 e4 (EV' w _ hB hr))
      |10,_=>exact G.obv [(104,.tuple #[.agg #[.slice none 0 0,int u64 0,int u64 0],.int .i64 c2])] rfl rfl (fun A w ⟨e0,_⟩ hB=>doV_move e0)
      |11,_=>exact G.obv [(94,.tuple #[.agg #[.slice none 0 0,int u64 0,int u64 0],.int .i64 c2])] rfl rfl (fun A w ⟨e0,_⟩ hB=>xt2_0 e0)
      |12,_=>exact G.obv [(94,.tuple #[.agg #[.slice none 0 0,int u64 0,int u64 0],.int .i64 c2])] rfl rfl (fun A w ⟨e0,_⟩ hB=>xt2_1 e0)
      |13,_=>exact G.ob_new rfl rfl (fun A w=>al_evd)
      |14,_=>exact G.ob_put 20 (fun f=> [(20,.pointer (some ⟨f 13,0,none⟩)),(105,.agg #[.slice none 0 0,int u64 0,int u64 0])]) rfl rfl rfl (by decide) (by kernel_rfl) rfl (fun _=>by kernel_rfl) (fun f A w ⟨e0,e1,_⟩ hr=>pu_evd e0 e1 hr)
      |15,_=>exact G.obv [(106,.int .i64 c2)] rfl rfl (fun A w ⟨e0,_⟩ hB=>doV_assign e0)
      |ix+16,h=>exact absurd h (by simp)
    intro f W9 hS _ _ _ _;replace hb:=hbD W9 hS;clear hS q0 q1 q2 EV EV' WW' hbD;simp only [puts,List.foldl,Act.put,List.setIfInBounds_toArray,List.set_cons_zero,List.set_cons_succ];go_wp2;go_ret;exact⟨rfl,hb⟩
  · have EV':∀(w':World) (g:Nat),G.Sides [] W8.drew w'→w'.heap[g]? =some (Obj.cells #[int u64 b0,int u64 b1,.bool b2] 25)→_:=fun w' g h hg=>EV w' g (hbD w' h) hg
    rw [←hWL] at EV';go_wp2;have q0:W8.drew.cell? ⟨BB,0,none⟩=_:=r16.cell (k:=0) rfl;have q1:W8.drew.cell? ⟨BB,1,none⟩=_:=r16.cell (k:=1) rfl;have q2:W8.drew.cell? ⟨BB,2,none⟩=_:=r16.cell (k:=2) rfl
    refine G.dep_list (W:=W8) [] ((0,0):Nat×Nat) 9 [9,10,11,12,14,15] (fun u=> .tuple #[.agg #[.slice (some ⟨u.1,0,none⟩) 1 u.2,int u64 pc,int u64 ps],.int .i64 0]) (fun u w=>w.ownsRow WL 25 3 (.slice (some ⟨u.1,0,none⟩) 1 u.2) 1 xs) (fun u=> [.val (.int .i64 m),
        .val (int u64 (key:Int)),
        .val (.string t),
        .val (.pointer (some ⟨BB,0,none⟩)),
        .val (.agg #[int u64 b0,int u64 b1,.bool b2]),
        .new (.cells #[int u64 b0,int u64 b1,.bool b2] 25) (.cells #[int u64 b0,int u64 b1,.bool b2] 25) 1001,
        .val (.slice a1 l1 cap1),
        .val (int u64 (r9:Int)),
        .val (int u64 ((r9%2305843010818082053:Nat):Int)),
        .got (fun _=> .tuple #[.agg #[.slice (some ⟨u.1,0,none⟩) 1 u.2,int u64 pc,int u64 ps],.int .i64 0]) (fun _ w=>w.ownsRow WL 25 3 (.slice (some ⟨u.1,0,none⟩) 1 u.2) 1 xs),
        .val (.tuple #[.agg #[.slice (some ⟨u.1,0,none⟩) 1 u.2,int u64 pc,int u64 ps],.int .i64 0]),
        .val (.agg #[.slice (some ⟨u.1,0,none⟩) 1 u.2,int u64 pc,int u64 ps]),
        .val (.int .i64 0),
        .new (.cells #[.slice none 0 0,int u64 0,int u64 0] 41) (.cells #[.slice (some ⟨u.1,0,none⟩) 1 u.2,int u64 pc,int u64 ps] 41) 14,
        .put 13,
        .val (.int .i64 0)]) [[5],[10],[7],[16],[98],[99],[1],[101],[102],[95,96,97,100,103],[104],[94],[94],[],[20,105],[106]] (fun u f=> [(some 95,.int .i64 m),(some 96,int u64 (key:Int)),(some 97,.string t),(some 98,.pointer (some ⟨BB,0,none⟩)),(some 99,.agg #[int u64 b0,int u64 b1,.bool b2]),(some 100,.slice (some ⟨f 5,0,none⟩) 1 1),(some 101,.slice a1 l1 cap1),(some 102,int u64 (r9:Int)),(some 103,int u64 ((r9%2305843010818082053:Nat):Int)),(some 104,.tuple #[.agg #[.slice (some ⟨u.1,0,none⟩) 1 u.2,int u64 pc,int u64 ps],.int .i64 0]),(some 94,.tuple #[.agg #[.slice (some ⟨u.1,0,none⟩) 1 u.2,int u64 pc,int u64 ps],.int .i64 0]),(some 105,.agg #[.slice (some ⟨u.1,0,none⟩) 1 u.2,int u64 pc,int u64 ps]),(some 106,.int .i64 0),(some 20,.pointer (some ⟨f 13,0,none⟩)),(none,undef),(some 21,.int .i64 0)]) (by kernel_rfl) (by kernel_rfl) (fun _=>by kernel_rfl) (by kernel_rfl) (by kernel_rfl) (fun _=>by kernel_rfl) (fun _ _=>by kernel_rfl) (fun u=>G.last_one (fun w=>w.ownsRow WL 25 3 (.slice (some ⟨u.1,0,none⟩) 1 u.2) 1 xs) (fun F R hm=>by simp only [List.mem_cons,List.not_mem_nil,or_false,reduceCtorEq,false_or,G.Knd.got.injEq] at hm;obtain⟨-,rfl⟩:=hm;rfl) (fun w w' h hb=>below_own3 h hb) (fun w w' b ob ob' hm hR hb hT=>by obtain⟨k,hm⟩:=hm;simp at hm;rcases hm with ⟨rfl,rfl,-⟩|⟨rfl,rfl,-⟩<;>first|exact G.own_turn hR hb hT (.inl rfl)|exact G.own_turn hR hb hT (.inr ⟨_,_,rfl,by decide⟩)) (fun b ob ob' hm=>by simp at hm)) (fun u b ob ob' hm=>by simp at hm) (by kernel_rfl) ?_ (fun u j b ob ob' hk=>by have:=G.kind_mem hk (by simp);simp at this) (fun u=>rfl) ?_ ?_ ?_
    · intro u j hj
      match j,hj with
        |0,_=>exact .inl rfl
        |1,_=>exact .inl rfl
        |2,_=>exact .inl rfl
        |3,_=>exact .inl rfl
        |4,_=>exact .inl rfl
        |5,_=>exact .inl rfl
        |6,_=>exact .inl rfl
        |7,_=>exact .inl rfl
        |8,_=>exact .inl rfl
        |9,h=>exact absurd (by decide) h
        |10,h=>exact absurd (by decide) h
        |11,h=>exact absurd (by decide) h
        |12,h=>exact absurd (by decide) h
        |13,_=>exact .inr ⟨_,_,_,_,rfl,rfl,by decide⟩
        |14,h=>exact absurd (by decide) h
        |15,h=>exact absurd (by decide) h
        |j+16,_=>exact .inl rfl
    · exact G.ob0_use 100 5 1001 (.cells #[int u64 b0,int u64 b1,.bool b2] 25) (fun f=> [(95,.int .i64 m),(96,int u64 (key:Int)),(97,.string t),(100,.slice (some ⟨f 5,0,none⟩) 1 1),(103,int u64 ((r9%2305843010818082053:Nat):Int))]) rfl (by decide) rfl rfl (fun _=>by kernel_rfl) (fun f A w ⟨e0,e1,e2,e3,e4,_⟩ hB hr=>cd5 cf_impl_Evaluate e0 e1 e2 e3 e4 (EV' w (f 5) hB hr))
    · intro u ix hix hne
      match ix,hix,hne with
      |0,_,_=>exact G.obv [(5,.int .i64 m)] rfl rfl (fun A w ⟨e0,_⟩ hB=>doV_move e0)
      |1,_,_=>exact G.obv [(10,int u64 (key:Int))] rfl rfl (fun A w ⟨e0,_⟩ hB=>doV_move e0)
      |2,_,_=>exact G.obv [(7,.string t)] rfl rfl (fun A w ⟨e0,_⟩ hB=>doV_move e0)
      |3,_,_=>exact G.obv [(16,.pointer (some ⟨BB,0,none⟩))] rfl rfl (fun A w ⟨e0,_⟩ hB=>fa_bld0 e0)
      |4,_,_=>exact G.obv [(98,.pointer (some ⟨BB,0,none⟩))] rfl rfl (fun A w ⟨e0,_⟩ hB=>ld_pt e0 (hB.cell q0 (by simp)) (hB.cell q1 (by simp)) (hB.cell q2 (by simp)))
      |5,_,_=>exact G.ob_slc 1 [(99,.agg #[int u64 b0,int u64 b1,.bool b2])] rfl rfl (fun _=>by kernel_rfl) (fun A w ⟨e0,_⟩=>sl_pts1 e0)
      |6,_,_=>exact G.obv [(1,.slice a1 l1 cap1)] rfl rfl (fun A w ⟨e0,_⟩ hB=>doV_move e0)
      |7,_,_=>exact G.obv [(101,.slice a1 l1 cap1)] rfl rfl (fun A w ⟨e0,_⟩ hB=>cl2 cf_laws_wWord e0 rfl (WW' w hB))
      |8,_,_=>exact G.obv [(102,int u64 (r9:Int))] rfl rfl (fun A w ⟨e0,_⟩ hB=>rm_N e0 lr9)
      |9,_,h=>exact absurd rfl h
      |10,_,_=>exact G.obv [(104,.tuple #[.agg #[.slice (some ⟨u.1,0,none⟩) 1 u.2,int u64 pc,int u64 ps],.int .i64 0])] rfl rfl (fun A w ⟨e0,_⟩ hB=>doV_move e0)
      |11,_,_=>exact G.obv [(94,.tuple #[.agg #[.slice (some ⟨u.1,0,none⟩) 1 u.2,int u64 pc,int u64 ps],.int .i64 0])] rfl rfl (fun A w ⟨e0,_⟩ hB=>xt2_0 e0)
      |12,_,_=>exact G.obv [(94,.tuple #[.agg #[.slice (some ⟨u.1,0,none⟩) 1 u.2,int u64 pc,int u64 ps],.int .i64 0])] rfl rfl (fun A w ⟨e0,_⟩ hB=>xt2_1 e0)
      |13,_,_=>exact G.ob_new rfl rfl (fun A w=>al_evd)
      |14,_,_=>exact G.ob_put 20 (fun f=> [(20,.pointer (some ⟨f 13,0,none⟩)),(105,.agg #[.slice (some ⟨u.1,0,none⟩) 1 u.2,int u64 pc,int u64 ps])]) rfl rfl rfl (by decide) (by kernel_rfl) rfl (fun _=>by kernel_rfl) (fun f A w ⟨e0,e1,_⟩ hr=>pu_evd e0 e1 hr)
      |15,_,_=>exact G.obv [(106,.int .i64 0)] rfl rfl (fun A w ⟨e0,_⟩ hB=>doV_assign e0)
      |ix+16,h,_=>exact absurd h (by simp)
    intro u f W9 hS hnew hown _;have r20:Bk W9 41 (f 13) #[.slice (some ⟨u.1,0,none⟩) 1 u.2,int u64 pc,int u64 ps]:=(hnew 13 _ _ _ rfl (by decide)).2;generalize f 13=B20 at*;have b9:Bl W8 W9:=(Below.refl _ W8).drew.trans hS.below;replace r11:=r11.keep b9;replace r16:=r16.keep b9;replace hb:=hbD W9 hS;clear hS q0 q1 q2 EV EV' WW' hbD hnew b9;simp only [puts,List.foldl,Act.put,List.setIfInBounds_toArray,List.set_cons_zero,List.set_cons_succ];obtain⟨u1,u2⟩:=u;dsimp only at hown r20⊢;have e0:=r20.cell (k:=0) rfl;have e1:=r20.cell (k:=1) rfl;have e2:=r20.cell (k:=2) rfl;have f0:=r16.cell (k:=0) rfl;have f1:=r16.cell (k:=1) rfl;have f2:=r16.cell (k:=2) rfl;have f3:=r16.cell (k:=3) rfl;have f4:=r16.cell (k:=4) rfl;have f5:=r16.cell (k:=5) rfl;have p0:=r11.cell (k:=0) rfl;have p1:=r11.cell (k:=1) rfl;have p2:=r11.cell (k:=2) rfl;go_wp2_with fail;refine(FI _ (u1,u2) hb (by rw [←hWL];exact hown)).mono ?_;rintro e w10 ⟨rfl,b⟩;replace hb:=hb.tr b;replace r11:=r11.keep b;clear b FI e0 e1 e2 f0 f1 f2 f3 f4 f5 p0 p1 p2 r16 r20 hown;go_wp2_with fail;refine(K5 _ hb).mono ?_;rintro e w' ⟨rfl,rfl⟩;clear K5;have p0:=r11.cell (k:=0) rfl;have p1:=r11.cell (k:=1) rfl;have p2:=r11.cell (k:=2) rfl;go_wp2_with fail;refine(IB2 _ hb).mono ?_;rintro e w12 ⟨rfl,b⟩;have hal:=balc w12 (Obj.cells #[int u64 d0,int u64 d1,.bool d2,int u64 d3,int u64 d4,.bool d5] 32);have r25:=Bk.new w12 32 #[int u64 d0,int u64 d1,.bool d2,int u64 d3,int u64 d4,.bool d5];replace hb:=hb.tr b;replace hb:=hb.tr hal;replace r11:=(r11.keep b).keep hal;clear b hal IB2 p0 p1 p2;go_wp2;generalize w12.heap.size=BD at*;generalize w12.alloc _=W11 at*;have hbD:∀w',G.Sides [] W11.drew w'→Bl w w':=fun w' h=>hb.drew.trans (h.below.mono hb.size)
    have WW':∀w',G.Sides [] W11.drew w'→Cr 14 #[.slice a1 l1 cap1,.int .i64 2] w' (int u64 (r2:Int)):=fun w' h=>(W2 w' (hbD w' h)).mono (by
      rintro e w'' ⟨rfl,rfl⟩
      exact⟨rfl,Below.refl _ _⟩)
    have EV2':∀(w':World) (g:Nat),G.Sides [] W11.drew w'→w'.heap[g]? =some (Obj.cells #[int u64 d0,int u64 d1,.bool d2] 25)→_:=fun w' g h hg=>EV2 w' g (hbD w' h) hg
    rw [←hWL] at EV2';have q0:W11.drew.cell? ⟨BD,0,none⟩=_:=r25.cell (k:=0) rfl;have q1:W11.drew.cell? ⟨BD,1,none⟩=_:=r25.cell (k:=1) rfl;have q2:W11.drew.cell? ⟨BD,2,none⟩=_:=r25.cell (k:=2) rfl
    refine G.dep_list (W:=W11) [] ((0,0):Nat×Nat) 9 [9,10,11,12,14,15] (fun u=> .tuple #[.agg #[.slice (some ⟨u.1,0,none⟩) 1 u.2,int u64 pc2,int u64 ps2],.int .i64 0]) (fun u w=>w.ownsRow WL 25 3 (.slice (some ⟨u.1,0,none⟩) 1 u.2) 1 xs2) (fun u=> [.val (.int .i64 m),
        .val (int u64 (key:Int)),
        .val (.string t),
        .val (.pointer (some ⟨BD,0,none⟩)),
        .val (.agg #[int u64 d0,int u64 d1,.bool d2]),
        .new (.cells #[int u64 d0,int u64 d1,.bool d2] 25) (.cells #[int u64 d0,int u64 d1,.bool d2] 25) 1001,
        .val (.slice a1 l1 cap1),
        .val (int u64 (r2:Int)),
        .val (int u64 ((r2%2305843010818082053:Nat):Int)),
        .got (fun _=> .tuple #[.agg #[.slice (some ⟨u.1,0,none⟩) 1 u.2,int u64 pc2,int u64 ps2],.int .i64 0]) (fun _ w=>w.ownsRow WL 25 3 (.slice (some ⟨u.1,0,none⟩) 1 u.2) 1 xs2),
        .val (.tuple #[.agg #[.slice (some ⟨u.1,0,none⟩) 1 u.2,int u64 pc2,int u64 ps2],.int .i64 0]),
        .val (.agg #[.slice (some ⟨u.1,0,none⟩) 1 u.2,int u64 pc2,int u64 ps2]),
        .val (.int .i64 0),
        .new (.cells #[.slice none 0 0,int u64 0,int u64 0] 41) (.cells #[.slice (some ⟨u.1,0,none⟩) 1 u.2,int u64 pc2,int u64 ps2] 41) 14,
        .put 13,
        .val (.int .i64 0)]) [[5],[10],[7],[25],[138],[139],[1],[141],[142],[135,136,137,140,143],[144],[134],[134],[],[27,145],[146]] (fun u f=> [(some 135,.int .i64 m),(some 136,int u64 (key:Int)),(some 137,.string t),(some 138,.pointer (some ⟨BD,0,none⟩)),(some 139,.agg #[int u64 d0,int u64 d1,.bool d2]),(some 140,.slice (some ⟨f 5,0,none⟩) 1 1),(some 141,.slice a1 l1 cap1),(some 142,int u64 (r2:Int)),(some 143,int u64 ((r2%2305843010818082053:Nat):Int)),(some 144,.tuple #[.agg #[.slice (some ⟨u.1,0,none⟩) 1 u.2,int u64 pc2,int u64 ps2],.int .i64 0]),(some 134,.tuple #[.agg #[.slice (some ⟨u.1,0,none⟩) 1 u.2,int u64 pc2,int u64 ps2],.int .i64 0]),(some 145,.agg #[.slice (some ⟨u.1,0,none⟩) 1 u.2,int u64 pc2,int u64 ps2]),(some 146,.int .i64 0),(some 27,.pointer (some ⟨f 13,0,none⟩)),(none,undef),(some 28,.int .i64 0)]) (by kernel_rfl) (by kernel_rfl) (fun _=>by kernel_rfl) (by kernel_rfl) (by kernel_rfl) (fun _=>by kernel_rfl) (fun _ _=>by kernel_rfl) (fun u=>G.last_one (fun w=>w.ownsRow WL 25 3 (.slice (some ⟨u.1,0,none⟩) 1 u.2) 1 xs2) (fun F R hm=>by simp only [List.mem_cons,List.not_mem_nil,or_false,reduceCtorEq,false_or,G.Knd.got.injEq] at hm;obtain⟨-,rfl⟩:=hm;rfl) (fun w w' h hb=>below_own3 h hb) (fun w w' b ob ob' hm hR hb hT=>by obtain⟨k,hm⟩:=hm;simp at hm;rcases hm with ⟨rfl,rfl,-⟩|⟨rfl,rfl,-⟩<;>first|exact G.own_turn hR hb hT (.inl rfl)|exact G.own_turn hR hb hT (.inr ⟨_,_,rfl,by decide⟩)) (fun b ob ob' hm=>by simp at hm)) (fun u b ob ob' hm=>by simp at hm) (by kernel_rfl) ?_ (fun u j b ob ob' hk=>by have:=G.kind_mem hk (by simp);simp at this) (fun u=>rfl) ?_ ?_ ?_
    · intro u j hj
      match j,hj with
        |0,_=>exact .inl rfl
        |1,_=>exact .inl rfl
        |2,_=>exact .inl rfl
        |3,_=>exact .inl rfl
        |4,_=>exact .inl rfl
        |5,_=>exact .inl rfl
        |6,_=>exact .inl rfl
        |7,_=>exact .inl rfl
        |8,_=>exact .inl rfl
        |9,h=>exact absurd (by decide) h
        |10,h=>exact absurd (by decide) h
        |11,h=>exact absurd (by decide) h
        |12,h=>exact absurd (by decide) h
        |13,_=>exact .inr ⟨_,_,_,_,rfl,rfl,by decide⟩
        |14,h=>exact absurd (by decide) h
        |15,h=>exact absurd (by decide) h
        |j+16,_=>exact .inl rfl
    · exact G.ob0_use 140 5 1001 (.cells #[int u64 d0,int u64 d1,.bool d2] 25) (fun f=> [(135,.int .i64 m),(136,int u64 (key:Int)),(137,.string t),(140,.slice (some ⟨f 5,0,none⟩) 1 1),(143,int u64 ((r2%2305843010818082053:Nat):Int))]) rfl (by decide) rfl rfl (fun _=>by kernel_rfl) (fun f A w ⟨e0,e1,e2,e3,e4,_⟩ hB hr=>cd5 cf_impl_Evaluate e0 e1 e2 e3 e4 (EV2' w (f 5) hB hr))
    · intro u ix hix hne
      match ix,hix,hne with
      |0,_,_=>exact G.obv [(5,.int .i64 m)] rfl rfl (fun A w ⟨e0,_⟩ hB=>doV_move e0)
      |1,_,_=>exact G.obv [(10,int u64 (key:Int))] rfl rfl (fun A w ⟨e0,_⟩ hB=>doV_move e0)
      |2,_,_=>exact G.obv [(7,.string t)] rfl rfl (fun A w ⟨e0,_⟩ hB=>doV_move e0)
      |3,_,_=>exact G.obv [(25,.pointer (some ⟨BD,0,none⟩))] rfl rfl (fun A w ⟨e0,_⟩ hB=>fa_bld0 e0)
      |4,_,_=>exact G.obv [(138,.pointer (some ⟨BD,0,none⟩))] rfl rfl (fun A w ⟨e0,_⟩ hB=>ld_pt e0 (hB.cell q0 (by simp)) (hB.cell q1 (by simp)) (hB.cell q2 (by simp)))
      |5,_,_=>exact G.ob_slc 1 [(139,.agg #[int u64 d0,int u64 d1,.bool d2])] rfl rfl (fun _=>by kernel_rfl) (fun A w ⟨e0,_⟩=>sl_pts1 e0)
      |6,_,_=>exact G.obv [(1,.slice a1 l1 cap1)] rfl rfl (fun A w ⟨e0,_⟩ hB=>doV_move e0)
      |7,_,_=>exact G.obv [(141,.slice a1 l1 cap1)] rfl rfl (fun A w ⟨e0,_⟩ hB=>cl2 cf_laws_wWord e0 rfl (WW' w hB))
      |8,_,_=>exact G.obv [(142,int u64 (r2:Int))] rfl rfl (fun A w ⟨e0,_⟩ hB=>rm_N e0 lr2)
      |9,_,h=>exact absurd rfl h
      |10,_,_=>exact G.obv [(144,.tuple #[.agg #[.slice (some ⟨u.1,0,none⟩) 1 u.2,int u64 pc2,int u64 ps2],.int .i64 0])] rfl rfl (fun A w ⟨e0,_⟩ hB=>doV_move e0)
      |11,_,_=>exact G.obv [(134,.tuple #[.agg #[.slice (some ⟨u.1,0,none⟩) 1 u.2,int u64 pc2,int u64 ps2],.int .i64 0])] rfl rfl (fun A w ⟨e0,_⟩ hB=>xt2_0 e0)
      |12,_,_=>exact G.obv [(134,.tuple #[.agg #[.slice (some ⟨u.1,0,none⟩) 1 u.2,int u64 pc2,int u64 ps2],.int .i64 0])] rfl rfl (fun A w ⟨e0,_⟩ hB=>xt2_1 e0)
      |13,_,_=>exact G.ob_new rfl rfl (fun A w=>al_evd)
      |14,_,_=>exact G.ob_put 27 (fun f=> [(27,.pointer (some ⟨f 13,0,none⟩)),(145,.agg #[.slice (some ⟨u.1,0,none⟩) 1 u.2,int u64 pc2,int u64 ps2])]) rfl rfl rfl (by decide) (by kernel_rfl) rfl (fun _=>by kernel_rfl) (fun f A w ⟨e0,e1,_⟩ hr=>pu_evd e0 e1 hr)
      |15,_,_=>exact G.obv [(146,.int .i64 0)] rfl rfl (fun A w ⟨e0,_⟩ hB=>doV_assign e0)
      |ix+16,h,_=>exact absurd h (by simp)
    intro u f W13 hS hnew hown _;have r27:Bk W13 41 (f 13) #[.slice (some ⟨u.1,0,none⟩) 1 u.2,int u64 pc2,int u64 ps2]:=(hnew 13 _ _ _ rfl (by decide)).2;generalize f 13=B27 at*;have b9:Bl W11 W13:=(Below.refl _ W11).drew.trans hS.below;replace r11:=r11.keep b9;replace r25:=r25.keep b9;replace hb:=hbD W13 hS;clear hS q0 q1 q2 EV2 EV2' WW' hbD hnew b9;simp only [puts,List.foldl,Act.put,List.setIfInBounds_toArray,List.set_cons_zero,List.set_cons_succ];obtain⟨u3,u4⟩:=u;dsimp only at hown r27⊢;have e0:=r27.cell (k:=0) rfl;have e1:=r27.cell (k:=1) rfl;have e2:=r27.cell (k:=2) rfl;have f0:=r25.cell (k:=0) rfl;have f1:=r25.cell (k:=1) rfl;have f2:=r25.cell (k:=2) rfl;have f3:=r25.cell (k:=3) rfl;have f4:=r25.cell (k:=4) rfl;have f5:=r25.cell (k:=5) rfl;have p0:=r11.cell (k:=0) rfl;have p1:=r11.cell (k:=1) rfl;have p2:=r11.cell (k:=2) rfl;go_wp2_with fail;refine(FI2 _ (u3,u4) hb (by rw [←hWL];exact hown)).mono ?_;rintro e w14 ⟨rfl,b⟩;replace hb:=hb.tr b;clear b FI2 e0 e1 e2 f0 f1 f2 f3 f4 f5 p0 p1 p2 r25 r27 hown hWL;have ho':(o.size:Int)=32:=by omega
    clear ho;go_wp2;go_ret;exact⟨rfl,hb⟩
end fnBlind
end Go.Proofs.YtjmhmajfkdglnabGreatDoor
namespace Go.Proofs.YtjmhmajfkdglnabGreatDoor
open Go.Proofs.Tryz Go.RowKit
open Go.Value (int)
open Go.IntKind (u64)
section
open M
end
end Go.Proofs.YtjmhmajfkdglnabGreatDoor
