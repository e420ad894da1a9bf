import Derived.Test.YtijmldjijnpnoaaDoorMrg21
set_option linter.unusedVariables false
set_option maxRecDepth 100000
set_option maxHeartbeats 16000000
namespace Go.Proofs.YtijmldjijnpnoaaDoor
open Go.Proofs.Tryd Go.RowKit
open Go.Value (int)
open Go.IntKind (u64)
open Go.ChangeShapes Go.WideShapes Go.ChangeAt Go.RowKit
open Go.ChangeMaps (open_string shut_string)
namespace agree
theorem walk (x0 y0:Nat)(c0:Bool)(x1 y1:Nat)(c1:Bool)(x2 y2:Nat)(c2:Bool)(s:ByteArray)(w:World)(hs:s.size≤maxLen)(hT:TabK w):
    Cr 3 #[.agg #[.int .u64 (x0:Int),.int .u64 (y0:Int),.bool c0],.agg #[.int .u64 (x1:Int),.int .u64 (y1:Int),.bool c1],.agg #[.int .u64 (x2:Int),.int .u64 (y2:Int),.bool c2],.string s] w (.bool true):=
  agr_any x0 y0 c0 x1 y1 c1 x2 y2 c2 s w hs hT
theorem contract (H:Type)(enc:TypeId×Value→H)(W:World)(base:Nat)(args:Array Value)(ds gs:List (DataW H))(before:List MemPlace)
    (hval:∀(j:Nat) t v,Tryd.f3.params[j]? =some t→args[j]? =some v→Value.okWide prog W .any base t v)
    (hW:DataW.Whole enc prog Tryd.f3.params.toList Rows.fnExactAgreeSpec.vars false W args.toList ds gs before)(hL:laidMetH prog Rows.fnExactAgreeRow.laid W):
    Calls prog 3 args W fun e W'=>∃v,e= .returned v∧Rows.fnExactAgreeSpec.post enc prog Tryd.f3 false true false false W args v W':=by
  have hW':=hW;obtain⟨p,q,hA0,hV,rfl,hfz,hnd⟩:=hW;have hA:DataW.TrodAll enc prog W 0 (fun _=>true) true Tryd.f3.params.toList args.toList ds p:=hA0;rw [params3] at hA hval;obtain⟨v0,vs0,d0,ds0,p0,q0,hargs,rfl,rfl,h0,r0⟩:=trodAll_cons hA;obtain⟨v1,vs1,d1,ds1,p1,q1,rfl,rfl,rfl,h1,r1⟩:=trodAll_cons r0;obtain⟨v2,vs2,d2,ds2,p2,q2,rfl,rfl,rfl,h2,r2⟩:=trodAll_cons r1;obtain⟨v3,vs3,d3,ds3,p3,q3,rfl,rfl,rfl,h3,r3⟩:=trodAll_cons r2;obtain⟨rfl,rfl,rfl⟩:=trodAll_nil r3;obtain rfl:args=#[v0,v1,v2,v3]:=by cases args;simp_all
  obtain⟨gd,rfl⟩:∃gd,gs= [gd]:=by obtain⟨_,_,_,_,d,_,e,_⟩:=trodVars_one hV;exact⟨d,e⟩
  obtain⟨x0,y0,c0,rfl,rfl,rfl,wx0,wy0,lx0,ly0⟩:=open_pt (hval 0 24 v0 rfl rfl) h0;obtain⟨x1,y1,c1,rfl,rfl,rfl,wx1,wy1,lx1,ly1⟩:=open_pt (hval 1 24 v1 rfl rfl) h1;obtain⟨x2,y2,c2,rfl,rfl,rfl,wx2,wy2,lx2,ly2⟩:=open_pt (hval 2 24 v2 rfl rfl) h2;obtain⟨a3,rfl,rfl,rfl,w3⟩:=open_string underlying9 (hval 3 9 v3 rfl rfl) h3;clear hA0;refine(walk x0 y0 c0 x1 y1 c1 x2 y2 c2 a3 W w3 (table hL)).mono fun e W' ⟨he,bel⟩=> ?_
  subst he;exact⟨_,rfl,_,_,_,[],[],q,hW',trodAll_mk1 (shut_bool underlying4 _),(trodAll_cons_mk (shut_pt c0 wx0 wy0) (trodAll_cons_mk (shut_pt c1 wx1 wy1) (trodAll_cons_mk (shut_pt c2 wx2 wy2) (trodAll_cons_mk (shut_string underlying9 w3) trodAll_mk0)))),Below.trodVars laidOut bel varsR hV,bel.frame _,fun h=>by cases h⟩
theorem laid_met (os:Os):laidMet prog Rows.fnExactAgreeRow.laid ((laidWorld os).forCall (fun _ _=>0) ⟨#[],#[.agg #[.int .u64 0,.int .u64 0,.bool false],.agg #[.int .u64 0,.int .u64 0,.bool false],.agg #[.int .u64 0,.int .u64 0,.bool false],.string ByteArray.empty],[]⟩).memory:=
  laidMet_of_run' 8 (by kernel_rfl) (by kernel_rfl)
theorem reads (os:Os){H:Type}(enc:TypeId×Value→H):∃places,DataW.whole enc prog ((laidWorld os).forCall (fun _ _=>0) ⟨#[],#[.agg #[.int .u64 0,.int .u64 0,.bool false],.agg #[.int .u64 0,.int .u64 0,.bool false],.agg #[.int .u64 0,.int .u64 0,.bool false],.string ByteArray.empty],[]⟩).memory Tryd.f3.params.toList Rows.fnExactAgreeSpec.vars false #[Value.agg #[.int .u64 0,.int .u64 0,.bool false],Value.agg #[.int .u64 0,.int .u64 0,.bool false],Value.agg #[.int .u64 0,.int .u64 0,.bool false],Value.string ByteArray.empty].toList 8=some ([.agg [.lit (.int .u64 0),.lit (.int .u64 0),.lit (.bool false)],.agg [.lit (.int .u64 0),.lit (.int .u64 0),.lit (.bool false)],.agg [.lit (.int .u64 0),.lit (.int .u64 0),.lit (.bool false)],.lit (.string [])],[Rows.laid_loop_example_s02095_impl_roundWords],places):=
  ⟨MemPlace.row ⟨2,0,none⟩ 64,by kernel_rfl⟩
theorem lifted (os:Os)(started:os.Started)(H:Type)(enc:TypeId×Value→H)(F:Stop.Interp):
    ReturnsInHanded {} Tryd.checked os 3 .any ((OpenSpec.ofChange Rows.fnExactAgreeSpec).preRow enc prog Tryd.f3 Rows.fnExactAgreeRow.domain false Rows.fnExactAgreeRow.laid) (((OpenSpec.ofChange Rows.fnExactAgreeSpec).at F).post enc prog Tryd.f3 false true false false):=by
  obtain⟨places,hx⟩:=reads os enc
  refine returnsInHanded_of_row (C:=Tryd.checked) (s:=OpenSpec.ofChange Rows.fnExactAgreeSpec) own started (by kernel_rfl) func3
    (witness_row_at (enc:=enc) (C:=Tryd.checked) false (laidWorld os) #[.agg #[.int .u64 0,.int .u64 0,.bool false],.agg #[.int .u64 0,.int .u64 0,.bool false],.agg #[.int .u64 0,.int .u64 0,.bool false],.string ByteArray.empty] rfl (by kernel_rfl) (by kernel_rfl) (by kernel_rfl)
      (OpenSpec.preRow_of_cond 8 hx (by kernel_rfl) (fun k hk=>by cases hk) (by kernel_rfl) (laid_met os))) ?_
  intro W base args ds gs before hval hW _ _ _ hL _ _;exact contract H enc W base args ds gs before hval hW hL
theorem said:Rows.FnExactAgreeSaid:=
  OpenClaim.holds_of_cond 3 Tryd.f3 rfl rfl rfl rfl rfl rfl rfl ⟨rfl,rfl,rfl,rfl,rfl⟩ rfl rfl rfl rfl rfl (by kernel_rfl) func3 (by kernel_rfl)
    (of_decide_eq_true (by kernel_rfl)) (by unfold Func.isWrapper;first|(rw [if_pos (by decide+kernel)];kernel_rfl)|(rw [if_neg (by decide+kernel)];exact⟨rfl,rfl⟩))
    (fun os started H enc _ F=>by rw [OpenClaim.pre_eq_preRow];exact lifted os started H enc F)
theorem plain (f:FuncId)(fn:Func)(hf:Tryd.pinned.checked.prog.funcNamed "loop.example/s02095/laws.FnExactAgree" =some f)(hfn:Tryd.pinned.checked.prog.funcs[f]? =some fn):
    false=Tryd.pinned.checked.prog.looks []∧∀(j:Nat) t,fn.params[j]? =some t→Tryd.pinned.checked.prog.wantsStandIn t=false:=by
  obtain rfl:f=3:=Option.some.inj ((show prog.funcNamed "loop.example/s02095/laws.FnExactAgree" =some 3 by kernel_rfl).symm.trans hf)|>.symm;obtain rfl:fn=Tryd.f3:=(Option.some.inj (func3.symm.trans hfn)).symm;refine⟨by kernel_rfl,fun j t ht=> ?_⟩;rw [params3] at ht;have hm:=Array.mem_of_getElem? ht;have:t=24∨t=9:=by simpa using hm
  rcases this with rfl|rfl
  · exact(show prog.wantsStandIn 24=false by kernel_rfl)
  · exact(show prog.wantsStandIn 9=false by kernel_rfl)
end agree
theorem agree_card:Rows.FnExactAgreeCardSaid:=
  Claim7.holds_tied_plain_at .later [] _ _ _ _ agree.said (fun _ h=>by cases h) (by kernel_rfl) (fun _ h=>by cases h) fnExactAgree_row_tie rfl ⟨rfl,rfl⟩ (by kernel_rfl) rfl agree.plain (by kernel_rfl)
#print axioms agree_card
end Go.Proofs.YtijmldjijnpnoaaDoor
