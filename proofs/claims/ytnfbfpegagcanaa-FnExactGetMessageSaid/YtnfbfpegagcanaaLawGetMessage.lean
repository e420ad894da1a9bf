import Derived.Test.YtnfbfpegagcanaaMrg24
set_option linter.unusedVariables false
set_option maxRecDepth 100000
set_option maxHeartbeats 16000000
namespace Go.Proofs.Ytnfbfpegagcanaa
open Go.Proofs.Try Go.RowKit
open Go.Value (int)
open Go.IntKind (u64)
namespace fnExactGetMessage
open Go.ChangeShapes Go.WideShapes Go.ChangeAt
open Go.ChangeMaps (open_string shut_string)
theorem walk_long (s:ByteArray)(w:World)(h:(1048576:Int)<(s.size:Int)):
    Cr 8 #[.string s] w (.bool true):=by
  go_enter func8,ntmps8;go_wp2;go_ret;exact⟨rfl,Below.refl _ _⟩
theorem walk_of (s:ByteArray)(m:Msg)(ok:Bool)(w:World)(h:(s.size:Int)≤1048576)
    (L:Cc 23 #[.string s] (.tuple #[.agg (msgL m).toArray,.bool ok]))
    (K:Cc 24 #[.string s] (.tuple #[.agg (msgL m).toArray,.bool ok])):
    Cr 8 #[.string s] w (.bool true):=by
  have EQ:=fun w=>eqM m w
  simp only [msgL] at L K EQ;go_enter func8,ntmps8;go_wp2_with fail;refine(L _).mono ?_;rintro e w1 ⟨rfl,hb⟩;have h1:=Bk.new w1 40 #[.int .i64 m.kind,.string m.user,.int .u64 (m.el.1:Int),.int .u64 (m.el.2.1:Int),.bool m.el.2.2,.int .u64 (m.ot.1:Int),.int .u64 (m.ot.2.1:Int),.bool m.ot.2.2,.string m.nonce,.string m.box,.string m.mac,.int .i64 m.code];replace hb:=hb.alloc hb.size (Obj.cells #[.int .i64 m.kind,.string m.user,.int .u64 (m.el.1:Int),.int .u64 (m.el.2.1:Int),.bool m.el.2.2,.int .u64 (m.ot.1:Int),.int .u64 (m.ot.2.1:Int),.bool m.ot.2.2,.string m.nonce,.string m.box,.string m.mac,.int .i64 m.code] 40);obtain⟨W1,hW1⟩:∃W,w1.alloc (Obj.cells #[.int .i64 m.kind,.string m.user,.int .u64 (m.el.1:Int),.int .u64 (m.el.2.1:Int),.bool m.el.2.2,.int .u64 (m.ot.1:Int),.int .u64 (m.ot.2.1:Int),.bool m.ot.2.2,.string m.nonce,.string m.box,.string m.mac,.int .i64 m.code] 40)=W:=⟨_,rfl⟩;rw [hW1] at h1 hb;clear L;go_wp2_with fail;refine(K _).mono ?_;rintro e w2 ⟨rfl,b2⟩;replace h1:=h1.keep b2;replace hb:=hb.tr b2;clear b2 K hW1;have h2:=Bk.new w2 40 #[.int .i64 m.kind,.string m.user,.int .u64 (m.el.1:Int),.int .u64 (m.el.2.1:Int),.bool m.el.2.2,.int .u64 (m.ot.1:Int),.int .u64 (m.ot.2.1:Int),.bool m.ot.2.2,.string m.nonce,.string m.box,.string m.mac,.int .i64 m.code];replace h1:=h1.alloc (Obj.cells #[.int .i64 m.kind,.string m.user,.int .u64 (m.el.1:Int),.int .u64 (m.el.2.1:Int),.bool m.el.2.2,.int .u64 (m.ot.1:Int),.int .u64 (m.ot.2.1:Int),.bool m.ot.2.2,.string m.nonce,.string m.box,.string m.mac,.int .i64 m.code] 40);replace hb:=hb.alloc hb.size (Obj.cells #[.int .i64 m.kind,.string m.user,.int .u64 (m.el.1:Int),.int .u64 (m.el.2.1:Int),.bool m.el.2.2,.int .u64 (m.ot.1:Int),.int .u64 (m.ot.2.1:Int),.bool m.ot.2.2,.string m.nonce,.string m.box,.string m.mac,.int .i64 m.code] 40);obtain⟨W2,hW2⟩:∃W,w2.alloc (Obj.cells #[.int .i64 m.kind,.string m.user,.int .u64 (m.el.1:Int),.int .u64 (m.el.2.1:Int),.bool m.el.2.2,.int .u64 (m.ot.1:Int),.int .u64 (m.ot.2.1:Int),.bool m.ot.2.2,.string m.nonce,.string m.box,.string m.mac,.int .i64 m.code] 40)=W:=⟨_,rfl⟩;rw [hW2] at h1 h2 hb;have c0:W2.cell? ⟨w1.heap.size,0,none⟩=some (.int .i64 m.kind):=h1.cell (k:=0) rfl;have c1:W2.cell? ⟨w1.heap.size,1,none⟩=some (.string m.user):=h1.cell (k:=1) rfl;have c2:W2.cell? ⟨w1.heap.size,2,none⟩=some (.int .u64 (m.el.1:Int)):=h1.cell (k:=2) rfl;have c3:W2.cell? ⟨w1.heap.size,3,none⟩=some (.int .u64 (m.el.2.1:Int)):=h1.cell (k:=3) rfl;have c4:W2.cell? ⟨w1.heap.size,4,none⟩=some (.bool m.el.2.2):=h1.cell (k:=4) rfl;have c5:W2.cell? ⟨w1.heap.size,5,none⟩=some (.int .u64 (m.ot.1:Int)):=h1.cell (k:=5) rfl;have c6:W2.cell? ⟨w1.heap.size,6,none⟩=some (.int .u64 (m.ot.2.1:Int)):=h1.cell (k:=6) rfl;have c7:W2.cell? ⟨w1.heap.size,7,none⟩=some (.bool m.ot.2.2):=h1.cell (k:=7) rfl;have c8:W2.cell? ⟨w1.heap.size,8,none⟩=some (.string m.nonce):=h1.cell (k:=8) rfl;have c9:W2.cell? ⟨w1.heap.size,9,none⟩=some (.string m.box):=h1.cell (k:=9) rfl;have c10:W2.cell? ⟨w1.heap.size,10,none⟩=some (.string m.mac):=h1.cell (k:=10) rfl;have c11:W2.cell? ⟨w1.heap.size,11,none⟩=some (.int .i64 m.code):=h1.cell (k:=11) rfl;have d0:W2.cell? ⟨w2.heap.size,0,none⟩=some (.int .i64 m.kind):=h2.cell (k:=0) rfl;have d1:W2.cell? ⟨w2.heap.size,1,none⟩=some (.string m.user):=h2.cell (k:=1) rfl;have d2:W2.cell? ⟨w2.heap.size,2,none⟩=some (.int .u64 (m.el.1:Int)):=h2.cell (k:=2) rfl;have d3:W2.cell? ⟨w2.heap.size,3,none⟩=some (.int .u64 (m.el.2.1:Int)):=h2.cell (k:=3) rfl;have d4:W2.cell? ⟨w2.heap.size,4,none⟩=some (.bool m.el.2.2):=h2.cell (k:=4) rfl;have d5:W2.cell? ⟨w2.heap.size,5,none⟩=some (.int .u64 (m.ot.1:Int)):=h2.cell (k:=5) rfl;have d6:W2.cell? ⟨w2.heap.size,6,none⟩=some (.int .u64 (m.ot.2.1:Int)):=h2.cell (k:=6) rfl;have d7:W2.cell? ⟨w2.heap.size,7,none⟩=some (.bool m.ot.2.2):=h2.cell (k:=7) rfl;have d8:W2.cell? ⟨w2.heap.size,8,none⟩=some (.string m.nonce):=h2.cell (k:=8) rfl;have d9:W2.cell? ⟨w2.heap.size,9,none⟩=some (.string m.box):=h2.cell (k:=9) rfl;have d10:W2.cell? ⟨w2.heap.size,10,none⟩=some (.string m.mac):=h2.cell (k:=10) rfl;have d11:W2.cell? ⟨w2.heap.size,11,none⟩=some (.int .i64 m.code):=h2.cell (k:=11) rfl;go_wp2_with fail;refine(EQ _).mono ?_;rintro e w3 ⟨rfl,b1⟩;replace hb:=hb.tr b1;clear b1 c0 c1 c2 c3 c4 c5 c6 c7 c8 c9 c10 c11 d0 d1 d2 d3 d4 d5 d6 d7 d8 d9 d10 d11 hW2;cases ok<;>(go_wp2;go_ret;exact⟨rfl,hb⟩)
theorem walk (s:ByteArray)(hs:s.size≤maxLen)(w:World):
    Cr 8 #[.string s] w (.bool true):=by
  by_cases h:(1048576:Int)<(s.size:Int)
  · exact walk_long s w h
  · exact walk_of s _ _ w (by omega) (fun w=>gmS s w (by omega)) (fun w=>getI s w hs)
theorem lifted (os:Os)(started:os.Started)(H:Type)(enc:TypeId×Value→H):
    ReturnsInHanded {} Try.checked os 8 .any (Rows.fnExactGetMessageSpec.pre6 enc prog Try.f8 Rows.fnExactGetMessageRow.domain false) (Rows.fnExactGetMessageSpec.post enc prog Try.f8 false true false false):=by
  refine returnsInHanded_of_change (C:=Try.checked) own started (by kernel_rfl) func8
    (ChangeSpec.witness6 (enc:=enc) (C:=Try.checked) false ⟨#[],#[.string ByteArray.empty],[]⟩ 8 (by kernel_rfl) (by kernel_rfl) (by kernel_rfl) (by kernel_rfl)) ?_
  intro W base args ds gs before hval0 hW hcnd _;have hval:∀(j:Nat) t v,Try.f8.params[j]? =some t→args[j]? =some v→Value.okWide prog W .any base t v:=hval0;have hW':=hW;obtain⟨p,q,hA0,hV,rfl,hfz,hnd⟩:=hW;have hA:DataW.TrodAll enc prog W 0 (fun _=>true) true Try.f8.params.toList args.toList ds p:=hA0;rw [params8] at hA hval;obtain⟨v0,vs0,d0,ds0,p0,q0,hargs,rfl,rfl,h0,r0⟩:=trodAll_cons hA;obtain⟨rfl,rfl,rfl⟩:=trodAll_nil r0;obtain rfl:args=#[v0]:=by cases args;simp_all
  obtain⟨a0,rfl,rfl,rfl,w0⟩:=open_string underlying9 (hval 0 9 v0 rfl rfl) h0;clear hA0 hval0;have hV2:=hV;obtain⟨rfl,rfl⟩:=trodVars_none hV;refine(walk a0 w0 W).mono fun e W' ⟨he,bel⟩=> ?_
  subst he;exact⟨_,rfl,_,_,_,[],[],[],hW',trodAll_mk1 (shut_bool underlying4 _),trodAll_cons_mk (shut_string underlying9 w0) (trodAll_mk0),Below.trodVars laidOut bel varsR0 hV2,bel.frame _,fun h=>by cases h⟩
theorem over:Rows.fnExactGetMessageRow.holds Try.pinned (OpenSpec.ofChange Rows.fnExactGetMessageSpec):=
  OpenClaim.holds_of_wide 8 Try.f8 rfl rfl rfl rfl rfl rfl rfl ⟨rfl,rfl,rfl,rfl,rfl⟩ rfl rfl rfl rfl rfl (by kernel_rfl) func8 (by kernel_rfl)
    (of_decide_eq_true (by kernel_rfl)) (by unfold Func.isWrapper;first|(rw [if_pos (by decide+kernel)];kernel_rfl)|(rw [if_neg (by decide+kernel)];exact⟨rfl,rfl⟩))
    (fun os started H enc _=>lifted os started H enc)
end fnExactGetMessage
theorem fnExactGetMessage_said:Rows.FnExactGetMessageSaid:=fnExactGetMessage.over
#print axioms fnExactGetMessage_said
end Go.Proofs.Ytnfbfpegagcanaa
