import Derived.Test.YtjhbckngdclleaaGreatDoorMrg42
set_option linter.unusedVariables false
set_option maxRecDepth 100000
set_option maxHeartbeats 16000000
namespace Go.Proofs.YtjhbckngdclleaaGreatDoor
open Go.Proofs.Tryz Go.RowKit
open Go.Value (int)
open Go.IntKind (u64)
section
open Go.ChangeShapes Go.WideShapes Go.ChangeAt Go.Deep M
theorem cellsU:prog.cellsOf 22=1:=by kernel_rfl
theorem cellsB:prog.cellsOf 4=1:=by kernel_rfl
theorem cellsLP:prog.cellsOf 24=3:=by kernel_rfl
section
variable {H:Type}{enc:TypeId×Value→H}{W:World}{base b0:Nat}{sp:Nat→Bool}{held:Bool}
theorem open_pt {r:Reach}{v:Value}{d:DataW H}{ps:List MemPlace}(hval:Value.okWide prog W r b0 24 v)(hd:DataW.Trod enc prog W base sp held 24 v d ps):
    ∃(x y:Nat) (c:Bool),v= .agg #[.int .u64 x,.int .u64 y,.bool c]∧d= .agg [.lit (.int .u64 x),.lit (.int .u64 y),.lit (.bool c)]∧ps= []∧(Lit.int .u64 (x:Int)).wf=true∧(Lit.int .u64 (y:Int)).wf=true∧x<18446744073709551616∧y<18446744073709551616:=by
  obtain⟨cs,rfl,hs⟩:=okWide_struct underlying24 hval;rw [cellsLP] at hs;obtain⟨fuel,hf⟩:=hd;obtain⟨y0,y1,y2,n,hx,-,t0,t1,t2⟩:=trod_struct3 underlying24 hf;simp only [cellsU,cellsB] at t0 t1 t2;obtain⟨a,e0,rfl,w0⟩:=DataW.trod_int underlying22 t0;obtain⟨b,e1,rfl,w1⟩:=DataW.trod_int underlying22 t1;obtain⟨c,e2,rfl⟩:=DataW.trod_bool underlying4 t2;obtain⟨l⟩:=cs
  match l,hs with
  | [p,q,s],_=>
    simp [Value.cells] at e0 e1 e2;subst e0 e1 e2;obtain⟨x,rfl,lx⟩:=u64_nat w0;obtain⟨y,rfl,ly⟩:=u64_nat w1;simp only [Prod.mk.injEq,List.append_nil] at hx;exact⟨x,y,c,rfl,hx.1,hx.2,w0,w1,lx,ly⟩
theorem shut_pt {x y:Int}(c:Bool)(wx:(Lit.int .u64 x).wf=true)(wy:(Lit.int .u64 y).wf=true):
    DataW.Trod enc prog W base sp held 24 (.agg #[.int .u64 x,.int .u64 y,.bool c]) (.agg [.lit (.int .u64 x),.lit (.int .u64 y),.lit (.bool c)]) []:=by
  refine⟨2,?_⟩
  have h:=trod_struct3_mk (enc:=enc) (w:=W) (base:=base) (spare:=sp) (held:=held) (n:=1) (cs:= [.int .u64 x,.int .u64 y,.bool c]) (y0:=(.lit (.int .u64 x),[])) (y1:=(.lit (.int .u64 y),[])) (y2:=(.lit (.bool c),[])) underlying24 (by rw [cellsLP];rfl)
    (by simp only [cellsU];exact trod_int_mk 0 underlying22 wx) (by simp only [cellsU];exact trod_int_mk 0 underlying22 wy) (by simp only [cellsB];simp [DataW.trod,underlying4])
  exact h
end
theorem toP (x y:Int)(c:Bool)(w:World):
    Cr 10 #[.agg #[.int .u64 x,.int .u64 y,.bool c]] w (.agg #[.int .u64 x,.int .u64 y,.bool c]):=by
  go_enter func10,ntmps10;go_wp2;refine bodyPost_ret (v:= .agg #[.int .u64 x,.int .u64 y,.bool c]) (by simp [results,results10,go_sem]) rfl ⟨rfl,?_⟩;exact(((Below.refl _ w).alloc (Nat.le_refl _) _).alloc (by simp) _).alloc (by simp;omega) _
end
end Go.Proofs.YtjhbckngdclleaaGreatDoor
