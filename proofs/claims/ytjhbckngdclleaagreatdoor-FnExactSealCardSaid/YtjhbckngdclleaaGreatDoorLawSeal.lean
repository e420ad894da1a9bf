import Derived.Test.YtjhbckngdclleaaGreatDoorLawV
set_option linter.unusedVariables false
set_option maxRecDepth 100000
set_option maxHeartbeats 16000000
namespace Go.Proofs.YtjhbckngdclleaaGreatDoor
open Go.Proofs.Tryz Go.RowKit
open Go.Value (int)
open Go.IntKind (u64)
open Go.ChangeShapes Go.WideShapes Go.ChangeAt Go.RowKit
open Go.ChangeMaps (open_string shut_string)
namespace sealL
theorem varsR3:varsRowed prog ["loop.example/s02095/impl.errArgs","loop.example/s02095/impl.roundWords","loop.example/s02095/impl.errInverse"]=true:=by kernel_rfl
theorem eqR (v0 v4:ByteArray)(v1 v2:Int)(v3:Bool)(w:World):
    Cr 14 #[.agg #[.string v0,.int .u64 v1,.int .u64 v2,.bool v3,.string v4],.agg #[.string v0,.int .u64 v1,.int .u64 v2,.bool v3,.string v4]] w (.bool true):=by
  have h2:=Bk.new w 31 #[.string v0,.int .u64 v1,.int .u64 v2,.bool v3,.string v4];have hB:=balc w (Obj.cells #[.string v0,.int .u64 v1,.int .u64 v2,.bool v3,.string v4] 31);obtain⟨W1,hW1⟩:∃W,w.alloc (Obj.cells #[.string v0,.int .u64 v1,.int .u64 v2,.bool v3,.string v4] 31)=W:=⟨_,rfl⟩;rw [hW1] at h2 hB;have h3:=Bk.new W1 31 #[.string v0,.int .u64 v1,.int .u64 v2,.bool v3,.string v4];replace h2:=h2.alloc (Obj.cells #[.string v0,.int .u64 v1,.int .u64 v2,.bool v3,.string v4] 31);replace hB:=hB.alloc hB.size (Obj.cells #[.string v0,.int .u64 v1,.int .u64 v2,.bool v3,.string v4] 31);obtain⟨W2,hW2⟩:∃W,W1.alloc (Obj.cells #[.string v0,.int .u64 v1,.int .u64 v2,.bool v3,.string v4] 31)=W:=⟨_,rfl⟩;rw [hW2] at h2 h3 hB;have d0:W2.cell? ⟨w.heap.size,0,none⟩=some (.string v0):=h2.cell (k:=0) rfl;have e0:W2.cell? ⟨W1.heap.size,0,none⟩=some (.string v0):=h3.cell (k:=0) rfl;have d1:W2.cell? ⟨w.heap.size,1,none⟩=some (.int .u64 v1):=h2.cell (k:=1) rfl;have e1:W2.cell? ⟨W1.heap.size,1,none⟩=some (.int .u64 v1):=h3.cell (k:=1) rfl;have d2:W2.cell? ⟨w.heap.size,2,none⟩=some (.int .u64 v2):=h2.cell (k:=2) rfl;have e2:W2.cell? ⟨W1.heap.size,2,none⟩=some (.int .u64 v2):=h3.cell (k:=2) rfl;have d3:W2.cell? ⟨w.heap.size,3,none⟩=some (.bool v3):=h2.cell (k:=3) rfl;have e3:W2.cell? ⟨W1.heap.size,3,none⟩=some (.bool v3):=h3.cell (k:=3) rfl;have d4:W2.cell? ⟨w.heap.size,4,none⟩=some (.string v4):=h2.cell (k:=4) rfl;have e4:W2.cell? ⟨W1.heap.size,4,none⟩=some (.string v4):=h3.cell (k:=4) rfl;go_enter func14,ntmps14;go_wp2_with fail;refine(eqP _ _ _ _).mono ?_;rintro e w1 ⟨rfl,q1⟩;replace h2:=h2.keep q1;replace h3:=h3.keep q1;replace hB:=hB.tr q1;clear q1 d0 d1 d2 d3 d4 e0 e1 e2 e3 e4 hW1 hW2;have d4:w1.cell? ⟨w.heap.size,4,none⟩=some (.string v4):=h2.cell (k:=4) rfl;have e4:w1.cell? ⟨W1.heap.size,4,none⟩=some (.string v4):=h3.cell (k:=4) rfl;go_wp2;go_ret;exact⟨rfl,hB⟩
theorem walk_long (a0 a1:ByteArray)(x y:Nat)(c:Bool)(a3:ByteArray)(w:World)(h:(1048576:Int)<(a0.size:Int)∨(1048576:Int)<(a1.size:Int)∨(1048576:Int)<(a3.size:Int)):
    Cr 4 #[.string a0,.string a1,.agg #[.int .u64 (x:Int),.int .u64 (y:Int),.bool c],.string a3] w (.bool true):=by
  have hB:=balc w (Obj.cells #[.int .u64 (x:Int),.int .u64 (y:Int),.bool c] 24);by_cases h0:(1048576:Int)<(a0.size:Int)
  · clear h;go_enter func4,ntmps4;go_wp2;go_ret;exact⟨rfl,hB⟩
  · by_cases h1:(1048576:Int)<(a1.size:Int)
    · have h0':(a0.size:Int)≤1048576:=by omega
      clear h h0;go_enter func4,ntmps4;go_wp2;go_ret;exact⟨rfl,hB⟩
    · have h0':(a0.size:Int)≤1048576:=by omega
      have h1':(a1.size:Int)≤1048576:=by omega
      have h3:(1048576:Int)<(a3.size:Int):=by omega
      clear h h0 h1;go_enter func4,ntmps4;go_wp2;go_ret;exact⟨rfl,hB⟩
theorem walk_of (a0 a1:ByteArray)(x y:Nat)(c:Bool)(a3:ByteArray)(v0 v4 v6:ByteArray)(v1 v2:Int)(v3 ok:Bool)(w:World)(h0:(a0.size:Int)≤1048576)(h1:(a1.size:Int)≤1048576)(h3:(a3.size:Int)≤1048576)
    (L:Cc 12 #[.string a0,.string a1,.agg #[.int .u64 (x:Int),.int .u64 (y:Int),.bool c],.string a3] (.tuple #[.agg #[.string v0,.int .u64 v1,.int .u64 v2,.bool v3,.string v4],.string v6,.bool ok]))
    (K:Cb w 13 #[.string a0,.string a1,.agg #[.int .u64 (x:Int),.int .u64 (y:Int),.bool c],.string a3] (.tuple #[.agg #[.string v0,.int .u64 v1,.int .u64 v2,.bool v3,.string v4],.string v6,.bool ok])):
    Cr 4 #[.string a0,.string a1,.agg #[.int .u64 (x:Int),.int .u64 (y:Int),.bool c],.string a3] w (.bool true):=by
  have h6:=Bk.new w 24 #[.int .u64 (x:Int),.int .u64 (y:Int),.bool c];have hB:=balc w (Obj.cells #[.int .u64 (x:Int),.int .u64 (y:Int),.bool c] 24);obtain⟨W1,hW1⟩:∃W,w.alloc (Obj.cells #[.int .u64 (x:Int),.int .u64 (y:Int),.bool c] 24)=W:=⟨_,rfl⟩;rw [hW1] at h6 hB;have c0:W1.cell? ⟨w.heap.size,0,none⟩=some (.int .u64 (x:Int)):=h6.cell (k:=0) rfl;have c1:W1.cell? ⟨w.heap.size,1,none⟩=some (.int .u64 (y:Int)):=h6.cell (k:=1) rfl;have c2:W1.cell? ⟨w.heap.size,2,none⟩=some (.bool c):=h6.cell (k:=2) rfl;go_enter func4,ntmps4;go_wp2_with fail;refine(toP _ _ _ _).mono ?_;rintro e w1 ⟨rfl,d1⟩;replace h6:=h6.keep d1;replace hB:=hB.tr d1;clear d1 c0 c1 c2 hW1;go_wp2_with fail;refine(L _).mono ?_;rintro e w2 ⟨rfl,d1⟩;replace h6:=h6.keep d1;replace hB:=hB.tr d1;clear d1 L;have h9:=Bk.new w2 31 #[.string v0,.int .u64 v1,.int .u64 v2,.bool v3,.string v4];replace h6:=h6.alloc (Obj.cells #[.string v0,.int .u64 v1,.int .u64 v2,.bool v3,.string v4] 31);replace hB:=hB.alloc hB.size (Obj.cells #[.string v0,.int .u64 v1,.int .u64 v2,.bool v3,.string v4] 31);obtain⟨W3,hW3⟩:∃W,w2.alloc (Obj.cells #[.string v0,.int .u64 v1,.int .u64 v2,.bool v3,.string v4] 31)=W:=⟨_,rfl⟩;rw [hW3] at h6 h9 hB;have c0:W3.cell? ⟨w.heap.size,0,none⟩=some (.int .u64 (x:Int)):=h6.cell (k:=0) rfl;have c1:W3.cell? ⟨w.heap.size,1,none⟩=some (.int .u64 (y:Int)):=h6.cell (k:=1) rfl;have c2:W3.cell? ⟨w.heap.size,2,none⟩=some (.bool c):=h6.cell (k:=2) rfl;go_wp2_with fail;refine(toP _ _ _ _).mono ?_;rintro e w4 ⟨rfl,d1⟩;replace h9:=h9.keep d1;replace hB:=hB.tr d1;clear d1 c0 c1 c2 hW3 h6;go_wp2_with fail;refine(K _ hB).mono ?_;rintro e w5 ⟨rfl,d1⟩;replace h9:=h9.keep d1;replace hB:=hB.tr d1;clear d1 K;have h12:=Bk.new w5 31 #[.string v0,.int .u64 v1,.int .u64 v2,.bool v3,.string v4];replace h9:=h9.alloc (Obj.cells #[.string v0,.int .u64 v1,.int .u64 v2,.bool v3,.string v4] 31);replace hB:=hB.alloc hB.size (Obj.cells #[.string v0,.int .u64 v1,.int .u64 v2,.bool v3,.string v4] 31);obtain⟨W6,hW6⟩:∃W,w5.alloc (Obj.cells #[.string v0,.int .u64 v1,.int .u64 v2,.bool v3,.string v4] 31)=W:=⟨_,rfl⟩;rw [hW6] at h9 h12 hB;have d0:W6.cell? ⟨w2.heap.size,0,none⟩=some (.string v0):=h9.cell (k:=0) rfl;have e0:W6.cell? ⟨w5.heap.size,0,none⟩=some (.string v0):=h12.cell (k:=0) rfl;have d1:W6.cell? ⟨w2.heap.size,1,none⟩=some (.int .u64 v1):=h9.cell (k:=1) rfl;have e1:W6.cell? ⟨w5.heap.size,1,none⟩=some (.int .u64 v1):=h12.cell (k:=1) rfl;have d2:W6.cell? ⟨w2.heap.size,2,none⟩=some (.int .u64 v2):=h9.cell (k:=2) rfl;have e2:W6.cell? ⟨w5.heap.size,2,none⟩=some (.int .u64 v2):=h12.cell (k:=2) rfl;have d3:W6.cell? ⟨w2.heap.size,3,none⟩=some (.bool v3):=h9.cell (k:=3) rfl;have e3:W6.cell? ⟨w5.heap.size,3,none⟩=some (.bool v3):=h12.cell (k:=3) rfl;have d4:W6.cell? ⟨w2.heap.size,4,none⟩=some (.string v4):=h9.cell (k:=4) rfl;have e4:W6.cell? ⟨w5.heap.size,4,none⟩=some (.string v4):=h12.cell (k:=4) rfl;go_wp2_with fail;refine(eqR v0 v4 v1 v2 v3 _).mono ?_;rintro e w7 ⟨rfl,q1⟩;replace hB:=hB.tr q1;clear d0 d1 d2 d3 d4 e0 e1 e2 e3 e4 hW6;cases ok<;>(go_wp2;go_ret;exact⟨rfl,hB⟩)
theorem rc5 (s n:ByteArray)(t:Tri)(u:ByteArray):∃v0 v4 v1 v2 v3,rcL s n t u= [.string v0,.int .u64 v1,.int .u64 v2,.bool v3,.string v4]:=by
  unfold rcL rcZ;split
  · exact⟨_,_,_,_,_,rfl⟩
  · exact⟨_,_,_,_,_,rfl⟩
theorem walk (a0 a1:ByteArray)(x y:Nat)(c:Bool)(a3:ByteArray)(w:World)(h0:a0.size≤maxLen)(h1:a1.size≤maxLen)(h3:a3.size≤maxLen)(hT:TabK w)(hS:∃s0 s2,So w s0 s2):
    Cr 4 #[.string a0,.string a1,.agg #[.int .u64 (x:Int),.int .u64 (y:Int),.bool c],.string a3] w (.bool true):=by
  obtain⟨s0,s2,hs⟩:=hS;by_cases h:(1048576:Int)<(a0.size:Int)∨(1048576:Int)<(a1.size:Int)∨(1048576:Int)<(a3.size:Int)
  · exact walk_long a0 a1 x y c a3 w h
  · have L:=fun w=>selS a0 a1 (x,y,c) a3 w (by omega) (by omega) (by omega)
    have K:=fun w' (hb:Bl w w')=>seI a0 a1 (x,y,c) a3 s0 s2 w' (hT.kept hb) (hs.keep hb)
    obtain⟨v0,v4,v1,v2,v3,e⟩:=rc5 a0 a1 (x,y,c) a3;rw [e] at L K;exact walk_of a0 a1 x y c a3 v0 v4 _ v1 v2 v3 _ w (by omega) (by omega) (by omega) L K
theorem contract (H:Type)(enc:TypeId×Value→H)(W:World)(base:Nat)(args:Array Value)(ds gs:List (DataW H))(before:List MemPlace)
    (hval:∀(j:Nat) t v,Tryz.f4.params[j]? =some t→args[j]? =some v→Value.okWide prog W .any base t v)
    (hW:DataW.Whole enc prog Tryz.f4.params.toList Rows.fnExactSealSpec.vars false W args.toList ds gs before)(hL:laidMetH prog Rows.fnExactSealRow.laid W):
    Calls prog 4 args W fun e W'=>∃v,e= .returned v∧Rows.fnExactSealSpec.post enc prog Tryz.f4 false true false false W args v W':=by
  have hW':=hW;obtain⟨p,q,hA0,hV,rfl,hfz,hnd⟩:=hW;have hA:DataW.TrodAll enc prog W 0 (fun _=>true) true Tryz.f4.params.toList args.toList ds p:=hA0;rw [params4] at hA hval;obtain⟨v0,vs0,d0,ds0,p0,q0,hargs,rfl,rfl,h0,r0⟩:=trodAll_cons hA;obtain⟨v1,vs1,d1,ds1,p1,q1,rfl,rfl,rfl,h1,r1⟩:=trodAll_cons r0;obtain⟨v2,vs2,d2,ds2,p2,q2,rfl,rfl,rfl,h2,r2⟩:=trodAll_cons r1;obtain⟨v3,vs3,d3,ds3,p3,q3,rfl,rfl,rfl,h3,r3⟩:=trodAll_cons r2;obtain⟨rfl,rfl,rfl⟩:=trodAll_nil r3;obtain rfl:args=#[v0,v1,v2,v3]:=by cases args;simp_all
  obtain⟨g1,g2,g3,rfl⟩:=three (trodVars_len hV);obtain⟨a0,rfl,rfl,rfl,w0⟩:=open_string underlying9 (hval 0 9 v0 rfl rfl) h0;obtain⟨a1,rfl,rfl,rfl,w1⟩:=open_string underlying9 (hval 1 9 v1 rfl rfl) h1;obtain⟨x2,y2,c2,rfl,rfl,rfl,wx2,wy2,lx2,ly2⟩:=open_pt (hval 2 24 v2 rfl rfl) h2;obtain⟨a3,rfl,rfl,rfl,w3⟩:=open_string underlying9 (hval 3 9 v3 rfl rfl) h3;clear hA0;refine(walk a0 a1 x2 y2 c2 a3 W w0 w1 w3 (table hL (by kernel_rfl)) (so_of hL)).mono fun e W' ⟨he,bel⟩=> ?_
  subst he;exact⟨_,rfl,_,_,_,[],[],q,hW',trodAll_mk1 (shut_bool underlying4 _),(trodAll_cons_mk (shut_string underlying9 w0) (trodAll_cons_mk (shut_string underlying9 w1) (trodAll_cons_mk (shut_pt c2 wx2 wy2) (trodAll_cons_mk (shut_string underlying9 w3) trodAll_mk0)))),Below.trodVars laidOut bel varsR3 hV,bel.frame _,fun h=>by cases h⟩
theorem laid_met (os:Os):laidMet prog Rows.fnExactSealRow.laid ((laidWorld6 os).forCall (fun _ _=>0) ⟨#[],#[.string ByteArray.empty,.string ByteArray.empty,.agg #[.int .u64 0,.int .u64 0,.bool false],.string ByteArray.empty],[]⟩).memory:=
  laidMet_of_run' 8 (by kernel_rfl) (by kernel_rfl)
theorem reads (os:Os){H:Type}(enc:TypeId×Value→H):∃places,DataW.whole enc prog ((laidWorld6 os).forCall (fun _ _=>0) ⟨#[],#[.string ByteArray.empty,.string ByteArray.empty,.agg #[.int .u64 0,.int .u64 0,.bool false],.string ByteArray.empty],[]⟩).memory Tryz.f4.params.toList Rows.fnExactSealSpec.vars false #[Value.string ByteArray.empty,Value.string ByteArray.empty,Value.agg #[.int .u64 0,.int .u64 0,.bool false],Value.string ByteArray.empty].toList 8=some ([.lit (.string []),.lit (.string []),.agg [.lit (.int .u64 0),.lit (.int .u64 0),.lit (.bool false)],.lit (.string [])],[DataW.held (enc (336,.pointer (some ⟨low6+0,0,none⟩))),Rows.laid_loop_example_s02095_impl_roundWords,DataW.held (enc (336,.pointer (some ⟨low6+2,0,none⟩)))],places):=by
  have h:(DataW.whole enc prog ((laidWorld6 os).forCall (fun _ _=>0) ⟨#[],#[.string ByteArray.empty,.string ByteArray.empty,.agg #[.int .u64 0,.int .u64 0,.bool false],.string ByteArray.empty],[]⟩).memory Tryz.f4.params.toList Rows.fnExactSealSpec.vars false #[Value.string ByteArray.empty,Value.string ByteArray.empty,Value.agg #[.int .u64 0,.int .u64 0,.bool false],Value.string ByteArray.empty].toList 8).map (fun x=>(x.1,x.2.1))=some ([.lit (.string []),.lit (.string []),.agg [.lit (.int .u64 0),.lit (.int .u64 0),.lit (.bool false)],.lit (.string [])],[DataW.held (enc (336,.pointer (some ⟨low6+0,0,none⟩))),Rows.laid_loop_example_s02095_impl_roundWords,DataW.held (enc (336,.pointer (some ⟨low6+2,0,none⟩)))]):=by kernel_rfl
  obtain⟨⟨x,y,z⟩,hx,e⟩:=Option.map_eq_some_iff.1 h;cases e;exact⟨z,hx⟩
theorem lifted (os:Os)(started:os.Started)(H:Type)(enc:TypeId×Value→H)(F:Stop.Interp):
    ReturnsInHanded {} Tryz.checked os 4 .any ((OpenSpec.ofChange Rows.fnExactSealSpec).preRow enc prog Tryz.f4 Rows.fnExactSealRow.domain false Rows.fnExactSealRow.laid) (((OpenSpec.ofChange Rows.fnExactSealSpec).at F).post enc prog Tryz.f4 false true false false):=by
  obtain⟨places,hx⟩:=reads os enc
  refine returnsInHanded_of_row (C:=Tryz.checked) (s:=OpenSpec.ofChange Rows.fnExactSealSpec) own started (by kernel_rfl) func4
    (witness_row_at (enc:=enc) (C:=Tryz.checked) false (laidWorld6 os) #[.string ByteArray.empty,.string ByteArray.empty,.agg #[.int .u64 0,.int .u64 0,.bool false],.string ByteArray.empty] rfl (by kernel_rfl) (by kernel_rfl) (by kernel_rfl)
      (OpenSpec.preRow_of_cond 8 hx (by kernel_rfl) (fun k hk=>by cases hk) (by kernel_rfl) (laid_met os))) ?_
  intro W base args ds gs before hval hW _ _ _ hL _ _;exact contract H enc W base args ds gs before hval hW hL
theorem said:Rows.FnExactSealSaid:=
  OpenClaim.holds_of_cond 4 Tryz.f4 rfl rfl rfl rfl rfl rfl rfl ⟨rfl,rfl,rfl,rfl,rfl⟩ rfl rfl rfl rfl rfl (by kernel_rfl) func4 (by kernel_rfl)
    (of_decide_eq_true (by kernel_rfl)) (by unfold Func.isWrapper;first|(rw [if_pos (by decide+kernel)];kernel_rfl)|(rw [if_neg (by decide+kernel)];exact⟨rfl,rfl⟩))
    (fun os started H enc _ F=>by rw [OpenClaim.pre_eq_preRow];exact lifted os started H enc F)
theorem plain (f:FuncId)(fn:Func)(hf:Tryz.pinned.checked.prog.funcNamed "loop.example/s02095/laws.FnExactSeal" =some f)(hfn:Tryz.pinned.checked.prog.funcs[f]? =some fn):
    true=Tryz.pinned.checked.prog.looks []∧∀(j:Nat) t,fn.params[j]? =some t→Tryz.pinned.checked.prog.wantsStandIn t=false:=by
  obtain rfl:f=4:=Option.some.inj ((show prog.funcNamed "loop.example/s02095/laws.FnExactSeal" =some 4 by kernel_rfl).symm.trans hf)|>.symm;obtain rfl:fn=Tryz.f4:=(Option.some.inj (func4.symm.trans hfn)).symm;refine⟨by kernel_rfl,fun j t ht=> ?_⟩;rw [params4] at ht;have hm:=Array.mem_of_getElem? ht;have:t=9∨t=24:=by simp at hm;grind
  rcases this with rfl|rfl
  · exact(show prog.wantsStandIn 9=false by kernel_rfl)
  · exact(show prog.wantsStandIn 24=false by kernel_rfl)
end sealL
theorem sealL_card:Rows.FnExactSealCardSaid:=
  Claim7.holds_tied_plain_at .later [] _ _ _ _ sealL.said (fun _ h=>by cases h) (by kernel_rfl) (fun _ h=>by cases h) fnExactSeal_row_tie rfl ⟨rfl,rfl⟩ (by kernel_rfl) rfl sealL.plain (by kernel_rfl)
#print axioms sealL_card
end Go.Proofs.YtjhbckngdclleaaGreatDoor
