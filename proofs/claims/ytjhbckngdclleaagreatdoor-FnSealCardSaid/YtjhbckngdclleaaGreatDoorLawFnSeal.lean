import Derived.Test.YtjhbckngdclleaaGreatDoorMrg47
set_option linter.unusedVariables false
set_option maxRecDepth 100000
set_option maxHeartbeats 16000000
namespace Go.Proofs.YtjhbckngdclleaaGreatDoor
open Go.Proofs.Tryz Go.RowKit
open Go.Value (int)
open Go.IntKind (u64)
open Go.ChangeShapes Go.WideShapes Go.ChangeAt Go.RowKit
open Go.ChangeMaps (open_string shut_string)
namespace fnSealL
theorem varsR3:varsRowed prog ["loop.example/s02095/impl.errArgs","loop.example/s02095/impl.roundWords","loop.example/s02095/impl.errInverse"]=true:=by kernel_rfl
theorem walk (a0:Option Addr)(l0 cap0:Nat)(w:World)(hv0:l0≤1048576→Cod w (.slice a0 l0 cap0))(hT:TabK w)(hs:∃s0 s2,So w s0 s2):
    Cr 6 #[.slice a0 l0 cap0] w (.bool true):=by
  by_cases h0:l0≤1048576
  · exact slW a0 l0 cap0 w (hv0 h0) h0 hT hs
  · have hli:(1048576:Int)<(l0:Int):=by omega
    clear hv0;go_enter func6,ntmps6;go_wp2;go_ret;exact⟨rfl,Below.refl _ _⟩
theorem contract (H:Type)(enc:TypeId×Value→H)(W:World)(base:Nat)(args:Array Value)(ds gs:List (DataW H))(before:List MemPlace)
    (hval:∀(j:Nat) t v,Tryz.f6.params[j]? =some t→args[j]? =some v→Value.okWide prog W .any base t v)
    (hW:DataW.Whole enc prog Tryz.f6.params.toList Rows.fnSealSpec.vars false W args.toList ds gs before)(hL:laidMetH prog Rows.fnSealRow.laid W):
    Calls prog 6 args W fun e W'=>∃v,e= .returned v∧Rows.fnSealSpec.post enc prog Tryz.f6 false true false false W args v W':=by
  have hW':=hW;obtain⟨p,q,hA0,hV,rfl,hfz,hnd⟩:=hW;have hA:DataW.TrodAll enc prog W 0 (fun _=>true) true Tryz.f6.params.toList args.toList ds p:=hA0;rw [params6] at hA hval;obtain⟨v0,vs0,d0,ds0,p0,q0,hargs,rfl,rfl,h0,r0⟩:=trodAll_cons hA;obtain⟨rfl,rfl,rfl⟩:=trodAll_nil r0;obtain rfl:args=#[v0]:=by cases args;simp_all
  obtain⟨g1,g2,g3,rfl⟩:=three (trodVars_len hV);obtain⟨a0,len0,cap0,rfl⟩:=okWide_slice underlying35 (hval 0 35 v0 rfl rfl);have hlt0:∀x∈p0,x.block<W.heap.size:=fun x hx=>hW'.lt x (by simp [hx])
  clear hA0;refine(walk a0 len0 cap0 W (cod_of h0) (table hL (by kernel_rfl)) (so_of hL)).mono fun e W' ⟨he,bel⟩=> ?_
  subst he;exact⟨_,rfl,_,_,_,[],p0++ [],q,hW',trodAll_mk1 (shut_bool underlying4 _),(trodAll_cons_mk (Below.trod laidOut (by kernel_rfl) (of_decide_eq_true (by kernel_rfl)) h0 bel hlt0) trodAll_mk0),Below.trodVars laidOut bel varsR3 hV,bel.frame _,fun h=>by cases h⟩
theorem laid_met (os:Os):laidMet prog Rows.fnSealRow.laid ((laidWorld6 os).forCall (fun _ _=>0) ⟨#[],#[.slice none 0 0],[]⟩).memory:=
  laidMet_of_run' 8 (by kernel_rfl) (by kernel_rfl)
theorem reads (os:Os){H:Type}(enc:TypeId×Value→H):∃places,DataW.whole enc prog ((laidWorld6 os).forCall (fun _ _=>0) ⟨#[],#[.slice none 0 0],[]⟩).memory Tryz.f6.params.toList Rows.fnSealSpec.vars false #[Value.slice none 0 0].toList 8=some ([.nil],[DataW.held (enc (336,.pointer (some ⟨low6+0,0,none⟩))),Rows.laid_loop_example_s02095_impl_roundWords,DataW.held (enc (336,.pointer (some ⟨low6+2,0,none⟩)))],places):=by
  have h:(DataW.whole enc prog ((laidWorld6 os).forCall (fun _ _=>0) ⟨#[],#[.slice none 0 0],[]⟩).memory Tryz.f6.params.toList Rows.fnSealSpec.vars false #[Value.slice none 0 0].toList 8).map (fun x=>(x.1,x.2.1))=some ([.nil],[DataW.held (enc (336,.pointer (some ⟨low6+0,0,none⟩))),Rows.laid_loop_example_s02095_impl_roundWords,DataW.held (enc (336,.pointer (some ⟨low6+2,0,none⟩)))]):=by kernel_rfl
  obtain⟨⟨x,y,z⟩,hx,e⟩:=Option.map_eq_some_iff.1 h;cases e;exact⟨z,hx⟩
theorem lifted (os:Os)(started:os.Started)(H:Type)(enc:TypeId×Value→H)(F:Stop.Interp):
    ReturnsInHanded {} Tryz.checked os 6 .any ((OpenSpec.ofChange Rows.fnSealSpec).preRow enc prog Tryz.f6 Rows.fnSealRow.domain false Rows.fnSealRow.laid) (((OpenSpec.ofChange Rows.fnSealSpec).at F).post enc prog Tryz.f6 false true false false):=by
  obtain⟨places,hx⟩:=reads os enc
  refine returnsInHanded_of_row (C:=Tryz.checked) (s:=OpenSpec.ofChange Rows.fnSealSpec) own started (by kernel_rfl) func6
    (witness_row_at (enc:=enc) (C:=Tryz.checked) false (laidWorld6 os) #[.slice none 0 0] rfl (by kernel_rfl) (by kernel_rfl) (by kernel_rfl)
      (OpenSpec.preRow_of_cond 8 hx (by kernel_rfl) (fun k hk=>by cases hk) (by kernel_rfl) (laid_met os))) ?_
  intro W base args ds gs before hval hW _ _ _ hL _ _;exact contract H enc W base args ds gs before hval hW hL
theorem said:Rows.FnSealSaid:=
  OpenClaim.holds_of_cond 6 Tryz.f6 rfl rfl rfl rfl rfl rfl rfl ⟨rfl,rfl,rfl,rfl,rfl⟩ rfl rfl rfl rfl rfl (by kernel_rfl) func6 (by kernel_rfl)
    (of_decide_eq_true (by kernel_rfl)) (by unfold Func.isWrapper;first|(rw [if_pos (by decide+kernel)];kernel_rfl)|(rw [if_neg (by decide+kernel)];exact⟨rfl,rfl⟩))
    (fun os started H enc _ F=>by rw [OpenClaim.pre_eq_preRow];exact lifted os started H enc F)
theorem plain (f:FuncId)(fn:Func)(hf:Tryz.pinned.checked.prog.funcNamed "loop.example/s02095/laws.FnSeal" =some f)(hfn:Tryz.pinned.checked.prog.funcs[f]? =some fn):
    true=Tryz.pinned.checked.prog.looks []∧∀(j:Nat) t,fn.params[j]? =some t→Tryz.pinned.checked.prog.wantsStandIn t=false:=by
  obtain rfl:f=6:=Option.some.inj ((show prog.funcNamed "loop.example/s02095/laws.FnSeal" =some 6 by kernel_rfl).symm.trans hf)|>.symm;obtain rfl:fn=Tryz.f6:=(Option.some.inj (func6.symm.trans hfn)).symm;refine⟨by kernel_rfl,fun j t ht=> ?_⟩;rw [params6] at ht;have hm:=Array.mem_of_getElem? ht;obtain rfl:t=35:=by simpa using hm
  exact(show prog.wantsStandIn 35=false by kernel_rfl)
end fnSealL
theorem fnSealL_card:Rows.FnSealCardSaid:=
  Claim7.holds_tied_plain_at .later [] _ _ _ _ fnSealL.said (fun _ h=>by cases h) (by kernel_rfl) (fun _ h=>by cases h) fnSeal_row_tie rfl ⟨rfl,rfl⟩ (by kernel_rfl) rfl fnSealL.plain (by kernel_rfl)
#print axioms fnSealL_card
end Go.Proofs.YtjhbckngdclleaaGreatDoor
