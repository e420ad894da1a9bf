import Derived.Test.YtjhbckngdclleaaGreatDoorMrg30
set_option linter.unusedVariables false
set_option maxRecDepth 100000
set_option maxHeartbeats 16000000
namespace Go.Proofs.YtjhbckngdclleaaGreatDoor
open Go.Proofs.Tryz Go.RowKit
open Go.Value (int)
open Go.IntKind (u64)
section
open Go.ChangeShapes Go.WideShapes Go.ChangeAt
theorem cellsU8:prog.cellsOf 5=1:=by kernel_rfl
theorem cod_of {H:Type}{enc:TypeId×Value→H}{W:World}{a0:Option Addr}{len cap:Nat}{d0:DataW H}{p:List MemPlace}
    (h0:DataW.Trod enc prog W 0 (fun _=>true) true 35 (.slice a0 len cap) d0 p)(hl:len≤1048576):Cod W (.slice a0 len cap):=by
  obtain⟨fuel,hf⟩:=h0;rcases open_ints underlying35 underlying5 cellsU8 hf with ⟨hcs,hx⟩|⟨a,len',cap',zs,hcs,_,hl',hm,hz,hx,hcell,hwz⟩
  · simp [Value.cells] at hcs;obtain⟨rfl,rfl,rfl⟩:=hcs;exact .inl ⟨_,_,rfl⟩
  · simp [Value.cells] at hcs;obtain⟨rfl,rfl,rfl⟩:=hcs;simp only [if_true] at hz;by_cases h1:len=0
    · subst h1;exact .inl ⟨_,_,rfl⟩
    · have hsp:a.spot=none:=by
        have:=hcell 0 (by omega);simp only [Addr.add,if_true] at this;unfold World.cell? at this;split at this
        · split at this
          · cases this
          · rename_i h;simpa using h
        · cases this
      obtain⟨b,o,sp⟩:=a;obtain rfl:sp=none:=hsp;refine .inr ⟨b,o,len,cap,by omega,hl,rfl,fun i hi=> ?_⟩;have hc:=hcell i (by omega);have ha:(⟨b,o,none⟩:Addr).add i=⟨b,o+i,none⟩:=by unfold Addr.add;split<;>simp_all
      rw [ha] at hc;have hw:=hwz (zs.getD i 0) (by rw [List.getD_eq_getElem?_getD,List.getElem?_eq_getElem (by omega)];exact List.getElem_mem _);have h2:0≤zs.getD i 0∧zs.getD i 0≤255:=by simpa [Lit.wf,IntKind.min,IntKind.max,IntKind.signed,IntKind.bits] using hw
      exact⟨(zs.getD i 0).toNat,by omega,by rw [hc];congr 2;omega⟩
end
end Go.Proofs.YtjhbckngdclleaaGreatDoor
