import Derived.Test.YtmjniccfjffclaaGreatDoorMrg26
import Derived.Test.YtmjniccfjffclaaGreatDoorMrg27
set_option linter.unusedVariables false
set_option maxRecDepth 100000
set_option maxHeartbeats 16000000
namespace Go.Proofs.YtmjniccfjffclaaGreatDoor
open Go.Proofs.Tryz Go.RowKit
open Go.Value (int)
open Go.IntKind (u64)
theorem cf_spec_l5Sized (args:Array Value)(w:World):(callFunc 62 args).run prog w= .ok (.enter 62 args) w:=by kernel_rfl
theorem cf_spec_PutPoint (args:Array Value)(w:World):(callFunc 95 args).run prog w= .ok (.enter 95 args) w:=by kernel_rfl
theorem cf_spec_l5Scalar (args:Array Value)(w:World):(callFunc 61 args).run prog w= .ok (.enter 61 args) w:=by kernel_rfl
theorem cf_spec_Times (args:Array Value)(w:World):(callFunc 15 args).run prog w= .ok (.enter 15 args) w:=by kernel_rfl
theorem cf_spec_l3Sum (args:Array Value)(w:World):(callFunc 49 args).run prog w= .ok (.enter 49 args) w:=by kernel_rfl
theorem cf_spec_l5Challenge (args:Array Value)(w:World):(callFunc 68 args).run prog w= .ok (.enter 68 args) w:=by kernel_rfl
theorem cf_impl_transcript_with (args:Array Value)(w:World):(callFunc 119 args).run prog w= .ok (.enter 119 args) w:=by kernel_rfl
theorem cf_impl_context_scalar (args:Array Value)(w:World):(callFunc 118 args).run prog w= .ok (.enter 118 args) w:=by kernel_rfl
theorem cf_impl_context_tag (args:Array Value)(w:World):(callFunc 123 args).run prog w= .ok (.enter 123 args) w:=by kernel_rfl
theorem cf_impl_hashOf (args:Array Value)(w:World):(callFunc 130 args).run prog w= .ok (.enter 130 args) w:=by kernel_rfl
theorem cf_impl_curvePoint_times (args:Array Value)(w:World):(callFunc 42 args).run prog w= .ok (.enter 42 args) w:=by kernel_rfl
theorem cf_impl_curvePoint_plus (args:Array Value)(w:World):(callFunc 82 args).run prog w= .ok (.enter 82 args) w:=by kernel_rfl
theorem cf_impl_curvePoint_triple (args:Array Value)(w:World):(callFunc 84 args).run prog w= .ok (.enter 84 args) w:=by kernel_rfl
theorem cf_impl_triple_multiple (args:Array Value)(w:World):(callFunc 85 args).run prog w= .ok (.enter 85 args) w:=by kernel_rfl
theorem cf_impl_triple_plus (args:Array Value)(w:World):(callFunc 117 args).run prog w= .ok (.enter 117 args) w:=by kernel_rfl
theorem cf_impl_weighted (args:Array Value)(w:World):(callFunc 116 args).run prog w= .ok (.enter 116 args) w:=by kernel_rfl
theorem cf_impl_batch_weights (args:Array Value)(w:World):(callFunc 115 args).run prog w= .ok (.enter 115 args) w:=by kernel_rfl
theorem cf_impl_batch_challenge (args:Array Value)(w:World):(callFunc 83 args).run prog w= .ok (.enter 83 args) w:=by kernel_rfl
theorem cf_impl_number_impl_primeN_times (args:Array Value)(w:World):(callFunc 171 args).run prog w= .ok (.enter 171 args) w:=by kernel_rfl
theorem cf_impl_number_impl_primeN_minus (args:Array Value)(w:World):(callFunc 174 args).run prog w= .ok (.enter 174 args) w:=by kernel_rfl
section
open M
def zBld:Array Value:=#[int u64 0,int u64 0,.bool false,int u64 0,int u64 0,.bool false]
theorem sizeBld:(prog.info? 39).map (·.size)=some 6:=by kernel_rfl
theorem Bk.sets {W:World}{t:TypeId}{b:Nat}{cs:Array Value}(h:Bk W t b cs)(ds:List Value)(hl:ds.length=cs.size):Bk (W.setCells b 0 ds) t b ds.toArray:=by
  have:=setCells_full b t ds 0 W cs.toList (by unfold Bk at h;simpa using h) (by simp;omega);unfold Bk;rw [this];simp [hl,List.drop_eq_nil_of_le]
theorem Bk.setsO {W:World}{t:TypeId}{b b':Nat}{cs:Array Value}(h:Bk W t b cs)(hne:b≠b')(o:Nat)(ds:List Value):Bk (W.setCells b' o ds) t b cs:=
  (World.heap_setCells_other W b' o ds h.lt hne).trans h
theorem cf_spec_Base (args:Array Value)(w:World):(callFunc 16 args).run prog w= .ok (.enter 16 args) w:=by kernel_rfl
theorem bsG (w:World):Cr 16 #[] w (.agg #[int u64 (px gG),int u64 (py gG),.bool (pb gG)]):=by
  have:=baseS w;rwa [ptW_eq] at this
end
section
open Go.ChangeShapes Go.WideShapes Go.ChangeAt Go.Deep
theorem Bk.thereAt {W:World}{t:TypeId}{b:Nat}{cs:Array Value}(h:Bk W t b cs)(o n:Nat)(hn:o+n≤cs.size):W.there b o n:=fun j hj=>
  ⟨by rw [h.cell (k:=o+j) (v:=cs[o+j]'(by omega)) (Array.getElem?_eq_getElem (by omega))];rfl,h.frz _⟩
theorem Bk.part {W:World}{t:TypeId}{b:Nat}{cs:List Value}(h:Bk W t b cs.toArray)(o:Nat)(vs:List Value)(hl:o+vs.length≤cs.length):Bk (W.setCells b o vs) t b (cs.take o++vs++cs.drop (o+vs.length)).toArray:=setCells_full b t vs o W cs h hl
theorem sizeEvd:(prog.info? 30).map (·.size)=some 3:=by kernel_rfl
theorem sizePrf:(prog.info? 28).map (·.size)=some 2:=by kernel_rfl
theorem infoP3:(prog.info? 34).map (fun i=>(i.zero,i.size,i.bytes))=some (some (.agg #[int u64 0,int u64 0,.bool false]),3,24):=by kernel_rfl
end
section
open M
section
variable {W W':World}{base base':Nat}{e e':TypeId}{s s':Nat}{v v':Value}{n n':Nat}{xs xs':List Value}
theorem own_ne_bk (h:W.ownsRow base e s v n xs){t:TypeId}{b:Nat}{cs:Array Value}(hb:Bk W t b cs)(hne:e≠t):some b≠v.ownBlock:=by
  rcases h.2 with ⟨rfl,_⟩|⟨g,cap,cur,rfl,-,hg,-⟩
  · simp [Value.ownBlock]
  · intro e1;have:b=g:=by simpa [Value.ownBlock] using e1
    subst this;unfold Bk at hb;rw [hb] at hg;injection hg with hg;injection hg with _ h2;exact hne h2.symm
theorem own_ne_own (h:W.ownsRow base e s v n xs)(h':W.ownsRow base' e' s' v' n' xs')(hne:e≠e'):v.ownBlock=none∨v.ownBlock≠v'.ownBlock:=by
  rcases h.2 with ⟨rfl,_⟩|⟨g,cap,cur,rfl,-,hg,-⟩
  · exact .inl rfl
  · exact .inr (own_ne_bk h' (show Bk W e g cur from hg) (fun e=>hne e.symm))
theorem Bk.grown {t:TypeId}{b:Nat}{cs:Array Value}{row:Option Nat}(h:Bk W t b cs)(hg:W.grownBy W' row)(hne:some b≠row):Bk W' t b cs:=(hg.block b h.lt hne).trans h
theorem grown_set (W:World)(b i:Nat)(x:Value):W.grownBy (W.setCell ⟨b,i,none⟩ x) (some b):=⟨rfl,rfl,rfl,by simp,fun k _ hk=>heap_setCell_other W ⟨b,i,none⟩ k x (fun e=>hk (by simp [e]))⟩
theorem own_set (h:W.ownsRow base e s v n xs){b:Nat}(hne:some b≠v.ownBlock)(i:Nat)(x:Value):(W.setCell ⟨b,i,none⟩ x).ownsRow base e s v n xs:=
  h.kept (grown_set W b i x) (.inr (fun e=>hne e.symm))
theorem onev (h:W.ownsRow base e s v n xs)(a b:Int):(#[v,int u64 a,int u64 b]:Array Value).all (·.oneCell')=true:=by
  rcases h.2 with ⟨rfl,_⟩|⟨g,cap,cur,rfl,-⟩<;>simp [Value.oneCell']
theorem grown_sets (W:World)(b o:Nat)(ds:List Value):W.grownBy (W.setCells b o ds) (some b):=
  ⟨World.os_setCells W b o ds,setCells_tape b ds o W,World.output_setCells W b o ds,by rw [setCells_size];exact Nat.le_refl _,fun k hk hne=>World.heap_setCells_other W b o ds hk (fun e=>hne (by rw [e]))⟩
theorem own_sets (h:W.ownsRow base e s v n xs){b:Nat}(hne:some b≠v.ownBlock)(o:Nat)(ds:List Value):(W.setCells b o ds).ownsRow base e s v n xs:=
  h.kept (grown_sets W b o ds) (.inr (fun e=>hne e.symm))
end
section
variable {P:Program}{ops:Array Oper}{Q:Exit→Act→World→Prop}{md:Region.Mode}
theorem last_do3 {fuel:Nat}{l:Array Bool}{A:Act}{w:World}(p q r:Nat){op oq or':Oper}(hf:3≤fuel)
    (hr:Region.ready md ops l= [p])(hrp:Region.ready md ops (l.setIfInBounds p true)= [q])
    (hpq:Region.ready md ops ((l.setIfInBounds p true).setIfInBounds q true)= [r])
    (hpr:Region.ready md ops (((l.setIfInBounds p true).setIfInBounds q true).setIfInBounds r true)= [])
    (hop:ops[p]? =some op)(hgp:op.guard=none)(hoq:ops[q]? =some oq)(hgq:oq.guard=none)(hor:ops[r]? =some or')(hgr:or'.guard=none){R:Value→World→Prop}{R2:Value→World→Value→World→Prop}
    (dp:Does P op A w R)(fq:∀v w',R v w'→Does P oq (A.put op.dst v) w' (R2 v w'))
    (fr:∀v w' v2 w2,R v w'→R2 v w' v2 w2→Does P or' ((A.put op.dst v).put oq.dst v2) w2 fun v3 w3=>Q .normal (((A.put op.dst v).put oq.dst v2).put or'.dst v3) w3):wpAny P md ops Q fuel l A w:=by
  obtain⟨n,rfl⟩:∃n,fuel=n+1+1+1:=⟨fuel-3,by omega⟩;refine⟨fun h=>(by rw [hr] at h;cases h),fun i hi=> ?_⟩;rw [hr] at hi;obtain rfl:=List.mem_singleton.1 hi;refine op_go hop hgp dp ?_;intro v w' hv;refine⟨fun h=>(by rw [hrp] at h;cases h),fun i hi=> ?_⟩;rw [hrp] at hi;obtain rfl:=List.mem_singleton.1 hi;refine op_go hoq hgq (fq v w' hv) ?_;intro v2 w2 h2;refine⟨fun h=>(by rw [hpq] at h;cases h),fun i hi=> ?_⟩;rw [hpq] at hi;obtain rfl:=List.mem_singleton.1 hi;refine op_go hor hgr (fr v w' v2 w2 hv h2) ?_;intro v3 w3 h3
  cases n with
  |zero=>exact ⟨hpr,h3⟩
  |succ n=>exact ⟨fun _=>h3,fun i hi=>by rw [hpr] at hi;cases hi⟩
end
end
end Go.Proofs.YtmjniccfjffclaaGreatDoor
