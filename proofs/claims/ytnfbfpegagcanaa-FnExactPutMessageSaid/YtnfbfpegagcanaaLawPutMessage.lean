import Derived.Test.YtnfbfpegagcanaaMrg23
set_option linter.unusedVariables false
set_option maxRecDepth 100000
set_option maxHeartbeats 16000000
namespace Go.Proofs.Ytnfbfpegagcanaa
open Go.Proofs.Try Go.RowKit
open Go.Value (int)
open Go.IntKind (u64)
namespace fnExactPutMessage
open Go.ChangeShapes Go.WideShapes Go.ChangeAt
open Go.ChangeMaps (open_string shut_string)
theorem walk (m:Msg)(hm:MsgIn m)(w:World):
    Cr 7 #[.agg (msgL m).toArray] w (.bool true):=by
  have SZ:=fun w=>szM_any m w hm.us hm.no hm.bo hm.ma
  have TM:=fun w=>tmM m w
  simp only [msgL] at SZ TM⊢;have h1:=Bk.new w 36 #[.int .i64 m.kind,.string m.user,.int .u64 (m.el.1:Int),.int .u64 (m.el.2.1:Int),.bool m.el.2.2,.int .u64 (m.ot.1:Int),.int .u64 (m.ot.2.1:Int),.bool m.ot.2.2,.string m.nonce,.string m.box,.string m.mac,.int .i64 m.code];have hB:=balc w (Obj.cells #[.int .i64 m.kind,.string m.user,.int .u64 (m.el.1:Int),.int .u64 (m.el.2.1:Int),.bool m.el.2.2,.int .u64 (m.ot.1:Int),.int .u64 (m.ot.2.1:Int),.bool m.ot.2.2,.string m.nonce,.string m.box,.string m.mac,.int .i64 m.code] 36);obtain⟨W1,hW1⟩:∃W,w.alloc (Obj.cells #[.int .i64 m.kind,.string m.user,.int .u64 (m.el.1:Int),.int .u64 (m.el.2.1:Int),.bool m.el.2.2,.int .u64 (m.ot.1:Int),.int .u64 (m.ot.2.1:Int),.bool m.ot.2.2,.string m.nonce,.string m.box,.string m.mac,.int .i64 m.code] 36)=W:=⟨_,rfl⟩;rw [hW1] at h1 hB;have c0:W1.cell? ⟨w.heap.size,0,none⟩=some (.int .i64 m.kind):=h1.cell (k:=0) rfl;have c1:W1.cell? ⟨w.heap.size,1,none⟩=some (.string m.user):=h1.cell (k:=1) rfl;have c2:W1.cell? ⟨w.heap.size,2,none⟩=some (.int .u64 (m.el.1:Int)):=h1.cell (k:=2) rfl;have c3:W1.cell? ⟨w.heap.size,3,none⟩=some (.int .u64 (m.el.2.1:Int)):=h1.cell (k:=3) rfl;have c4:W1.cell? ⟨w.heap.size,4,none⟩=some (.bool m.el.2.2):=h1.cell (k:=4) rfl;have c5:W1.cell? ⟨w.heap.size,5,none⟩=some (.int .u64 (m.ot.1:Int)):=h1.cell (k:=5) rfl;have c6:W1.cell? ⟨w.heap.size,6,none⟩=some (.int .u64 (m.ot.2.1:Int)):=h1.cell (k:=6) rfl;have c7:W1.cell? ⟨w.heap.size,7,none⟩=some (.bool m.ot.2.2):=h1.cell (k:=7) rfl;have c8:W1.cell? ⟨w.heap.size,8,none⟩=some (.string m.nonce):=h1.cell (k:=8) rfl;have c9:W1.cell? ⟨w.heap.size,9,none⟩=some (.string m.box):=h1.cell (k:=9) rfl;have c10:W1.cell? ⟨w.heap.size,10,none⟩=some (.string m.mac):=h1.cell (k:=10) rfl;have c11:W1.cell? ⟨w.heap.size,11,none⟩=some (.int .i64 m.code):=h1.cell (k:=11) rfl;go_enter func7,ntmps7;go_wp2_with fail;refine(SZ _).mono ?_;rintro e w1 ⟨rfl,b1⟩;replace h1:=h1.keep b1;replace hB:=hB.tr b1;clear b1 SZ hW1 c0 c1 c2 c3 c4 c5 c6 c7 c8 c9 c10 c11;by_cases hs:szM m≤1048576
  · have hf:Fits m:=by
      have h:=hs;unfold szM at h;have k1:=hm.k;have k2:=hm.c;simp only [Lit.wf,Bool.and_eq_true,decide_eq_true_eq] at k1 k2
      have hc:∀q,(fld m q).size≤1048584:=by
        intro q
        cases q with
        |u=>show (sizB m.user).size≤1048584;rw [sizB_size];omega
        |e=>show (ptM m.el).size≤1048584;unfold ptM;rw [ptX_size];omega
        |o=>show (ptM m.ot).size≤1048584;unfold ptM;rw [ptX_size];omega
        |n=>show m.nonce.size≤1048584;omega
        |b=>show m.box.size≤1048584;omega
        |m=>show m.mac.size≤1048584;omega
        |c=>show (byB m.code).size≤1048584;unfold byB;rw [strOfNums_size];simp
      have hl:∀l:List Lt,(cat m l).size≤l.length*1048584:=by
        intro l
        induction l with
        |nil=>exact Nat.zero_le _
        | cons q l ih=>
          have h1:=hc q;show(fld m q++cat m l).size≤(l.length+1)*1048584;rw [ByteArray.size_append,Nat.add_mul,Nat.one_mul];omega
      have h5:=hl (flds m.kind);have h6:=flds_le m.kind;rw [show IntKind.i64.min= -9223372036854775808 by decide,show IntKind.i64.max=9223372036854775807 by decide] at k1 k2;exact⟨k1.1,by have:=k1.2;omega,k2.1,by have:=k2.2;omega,by omega,by omega⟩
    have PS:=fun w=>pmS m w hf
    have PI:=fun w=>putI m w hf
    simp only [msgL] at PS PI;rw [if_pos hs];have hv: ¬ (1048576-(szM m:Int)<0):=by omega
    have hlt:(0:Int)≤1048576-(szM m:Int):=by omega
    generalize 1048576-(szM m:Int)=vv at*;clear hf hs hm;have c0:w1.cell? ⟨w.heap.size,0,none⟩=some (.int .i64 m.kind):=h1.cell (k:=0) rfl;have c1:w1.cell? ⟨w.heap.size,1,none⟩=some (.string m.user):=h1.cell (k:=1) rfl;have c2:w1.cell? ⟨w.heap.size,2,none⟩=some (.int .u64 (m.el.1:Int)):=h1.cell (k:=2) rfl;have c3:w1.cell? ⟨w.heap.size,3,none⟩=some (.int .u64 (m.el.2.1:Int)):=h1.cell (k:=3) rfl;have c4:w1.cell? ⟨w.heap.size,4,none⟩=some (.bool m.el.2.2):=h1.cell (k:=4) rfl;have c5:w1.cell? ⟨w.heap.size,5,none⟩=some (.int .u64 (m.ot.1:Int)):=h1.cell (k:=5) rfl;have c6:w1.cell? ⟨w.heap.size,6,none⟩=some (.int .u64 (m.ot.2.1:Int)):=h1.cell (k:=6) rfl;have c7:w1.cell? ⟨w.heap.size,7,none⟩=some (.bool m.ot.2.2):=h1.cell (k:=7) rfl;have c8:w1.cell? ⟨w.heap.size,8,none⟩=some (.string m.nonce):=h1.cell (k:=8) rfl;have c9:w1.cell? ⟨w.heap.size,9,none⟩=some (.string m.box):=h1.cell (k:=9) rfl;have c10:w1.cell? ⟨w.heap.size,10,none⟩=some (.string m.mac):=h1.cell (k:=10) rfl;have c11:w1.cell? ⟨w.heap.size,11,none⟩=some (.int .i64 m.code):=h1.cell (k:=11) rfl;go_wp2_with fail;refine(TM _).mono ?_;rintro e w2 ⟨rfl,b1⟩;replace h1:=h1.keep b1;replace hB:=hB.tr b1;clear b1 c0 c1 c2 c3 c4 c5 c6 c7 c8 c9 c10 c11;go_wp2_with fail;refine(PS _).mono ?_;rintro e w3 ⟨rfl,b1⟩;replace h1:=h1.keep b1;replace hB:=hB.tr b1;clear b1;generalize putM m=pm at*;have c0:w3.cell? ⟨w.heap.size,0,none⟩=some (.int .i64 m.kind):=h1.cell (k:=0) rfl;have c1:w3.cell? ⟨w.heap.size,1,none⟩=some (.string m.user):=h1.cell (k:=1) rfl;have c2:w3.cell? ⟨w.heap.size,2,none⟩=some (.int .u64 (m.el.1:Int)):=h1.cell (k:=2) rfl;have c3:w3.cell? ⟨w.heap.size,3,none⟩=some (.int .u64 (m.el.2.1:Int)):=h1.cell (k:=3) rfl;have c4:w3.cell? ⟨w.heap.size,4,none⟩=some (.bool m.el.2.2):=h1.cell (k:=4) rfl;have c5:w3.cell? ⟨w.heap.size,5,none⟩=some (.int .u64 (m.ot.1:Int)):=h1.cell (k:=5) rfl;have c6:w3.cell? ⟨w.heap.size,6,none⟩=some (.int .u64 (m.ot.2.1:Int)):=h1.cell (k:=6) rfl;have c7:w3.cell? ⟨w.heap.size,7,none⟩=some (.bool m.ot.2.2):=h1.cell (k:=7) rfl;have c8:w3.cell? ⟨w.heap.size,8,none⟩=some (.string m.nonce):=h1.cell (k:=8) rfl;have c9:w3.cell? ⟨w.heap.size,9,none⟩=some (.string m.box):=h1.cell (k:=9) rfl;have c10:w3.cell? ⟨w.heap.size,10,none⟩=some (.string m.mac):=h1.cell (k:=10) rfl;have c11:w3.cell? ⟨w.heap.size,11,none⟩=some (.int .i64 m.code):=h1.cell (k:=11) rfl;go_wp2_with fail;refine(TM _).mono ?_;rintro e w4 ⟨rfl,b1⟩;replace hB:=hB.tr b1;clear b1 c0 c1 c2 c3 c4 c5 c6 c7 c8 c9 c10 c11 h1;go_wp2_with fail;refine(PI _).mono ?_;rintro e w5 ⟨rfl,b1⟩;replace hB:=hB.tr b1;go_wp2;go_ret;exact⟨rfl,hB⟩
  · rw [if_neg hs];go_wp2;go_ret;exact⟨rfl,hB⟩
theorem lifted (os:Os)(started:os.Started)(H:Type)(enc:TypeId×Value→H):
    ReturnsInHanded {} Try.checked os 7 .any (Rows.fnExactPutMessageSpec.pre6 enc prog Try.f7 Rows.fnExactPutMessageRow.domain false) (Rows.fnExactPutMessageSpec.post enc prog Try.f7 false true false false):=by
  refine returnsInHanded_of_change (C:=Try.checked) own started (by kernel_rfl) func7
    (ChangeSpec.witness6 (enc:=enc) (C:=Try.checked) false ⟨#[],#[.agg #[.int .i64 0,.string ByteArray.empty,.int .u64 0,.int .u64 0,.bool false,.int .u64 0,.int .u64 0,.bool false,.string ByteArray.empty,.string ByteArray.empty,.string ByteArray.empty,.int .i64 0]],[]⟩ 8 (by kernel_rfl) (by kernel_rfl) (by kernel_rfl) (by kernel_rfl)) ?_
  intro W base args ds gs before hval0 hW hcnd _;have hval:∀(j:Nat) t v,Try.f7.params[j]? =some t→args[j]? =some v→Value.okWide prog W .any base t v:=hval0;have hW':=hW;obtain⟨p,q,hA0,hV,rfl,hfz,hnd⟩:=hW;have hA:DataW.TrodAll enc prog W 0 (fun _=>true) true Try.f7.params.toList args.toList ds p:=hA0;rw [params7] at hA hval;obtain⟨v0,vs0,d0,ds0,p0,q0,hargs,rfl,rfl,h0,r0⟩:=trodAll_cons hA;obtain⟨rfl,rfl,rfl⟩:=trodAll_nil r0;obtain rfl:args=#[v0]:=by cases args;simp_all
  obtain⟨m0,rfl,rfl,rfl,hm0⟩:=open_msg (hval 0 36 v0 rfl rfl) h0;clear hA0 hval0;have hV2:=hV;obtain⟨rfl,rfl⟩:=trodVars_none hV;refine(walk m0 hm0 W).mono fun e W' ⟨he,bel⟩=> ?_
  subst he;exact⟨_,rfl,_,_,_,[],[],[],hW',trodAll_mk1 (shut_bool underlying4 _),trodAll_cons_mk (shut_msg hm0) (trodAll_mk0),Below.trodVars laidOut bel varsR0 hV2,bel.frame _,fun h=>by cases h⟩
theorem over:Rows.fnExactPutMessageRow.holds Try.pinned (OpenSpec.ofChange Rows.fnExactPutMessageSpec):=
  OpenClaim.holds_of_wide 7 Try.f7 rfl rfl rfl rfl rfl rfl rfl ⟨rfl,rfl,rfl,rfl,rfl⟩ rfl rfl rfl rfl rfl (by kernel_rfl) func7 (by kernel_rfl)
    (of_decide_eq_true (by kernel_rfl)) (by unfold Func.isWrapper;first|(rw [if_pos (by decide+kernel)];kernel_rfl)|(rw [if_neg (by decide+kernel)];exact⟨rfl,rfl⟩))
    (fun os started H enc _=>lifted os started H enc)
end fnExactPutMessage
theorem fnExactPutMessage_said:Rows.FnExactPutMessageSaid:=fnExactPutMessage.over
#print axioms fnExactPutMessage_said
end Go.Proofs.Ytnfbfpegagcanaa
