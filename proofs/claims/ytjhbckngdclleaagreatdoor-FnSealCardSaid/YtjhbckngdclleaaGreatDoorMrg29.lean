import Derived.Test.YtjhbckngdclleaaGreatDoorMrg28
set_option linter.unusedVariables false
set_option maxRecDepth 100000
set_option maxHeartbeats 16000000
namespace Go.Proofs.YtjhbckngdclleaaGreatDoor
open Go.Proofs.Tryz Go.RowKit
open Go.Value (int)
open Go.IntKind (u64)
section
variable {A:Act}{w:World}{dst:Option Tmp}{ty:TypeId}{ps:String}{af:Array Edge}{gd:Option (Nat×Bool)}{x y:Operand}{b i:Nat}
theorem ld_err {v0:Value}(hx:A.eval x= .pointer (some ⟨b,i,none⟩))(h0:w.cell? ⟨b,i,none⟩=some v0):
    Does prog (Opr dst (.load 76 x) ty ps af gd) A w fun v' w'=>v'=v0∧Bl w w':=dv (by generalize A.eval=ev at*;simp [execOp,hx,h0,go_sem])
theorem eq_cpz {p:M.Pt}(hx:A.eval x= .agg #[int u64 (px p),int u64 (py p),.bool (pb p)])(hy:A.eval y= .agg #[int u64 0,int u64 0,.bool true]):
    Does prog (Opr dst (.binOp .eql 101 x y 101) ty ps af gd) A w fun v' w'=>v'= .bool (pb p)∧Bl w w':=by
  have h:(execOp A.eval (Opr dst (.binOp .eql 101 x y 101) ty ps af gd)).run prog w= .ok (.value (.bool (pb p))) w:=by
    generalize A.eval=ev at*;rcases p with _|⟨X,Y⟩<;>simp only [px,py,pb] at hx⊢ <;>simp [execOp,hx,hy,go_sem]
  exact does_value h ⟨rfl,Below.refl _ _⟩
end
theorem cf_impl_zeroPoint (args:Array Value)(w:World):(callFunc 114 args).run prog w= .ok (.enter 114 args) w:=by kernel_rfl
theorem putI_any (n:Nat)(w:World)(hn:n<18446744073709551616):
    Cr 121 #[int u64 n] w (.string (strOfNums (be8 n))):=by
  have L:=fun w=>beI_any (n:Int) 8 w (by omega) (by omega) (by omega) (by omega)
  rw [beTo8] at L;clear hn;go_enter func121,ntmps121;go_wp2_with fail;refine(L _).mono ?_;rintro e w' ⟨rfl,hb⟩;go_wp2;go_ret;exact⟨rfl,hb⟩
theorem G.Sides.under {S:List Nat}{W0 w w':World}{B:Nat}(h:G.Sides S W0 w')(hb:Below B w W0)(hS:∀b∈S,B≤b)(hB:B≤W0.heap.size):Below B w w':=
  hb.trans ⟨h.os,h.tape,h.output,h.size,fun k hk=>h.block k (Nat.lt_of_lt_of_le hk hB) (fun hm=>by have:=hS k hm;omega)⟩
end Go.Proofs.YtjhbckngdclleaaGreatDoor
