import Derived.Test.YtjhbckngdclleaaGreatDoorMrg25
set_option linter.unusedVariables false
set_option maxRecDepth 100000
set_option maxHeartbeats 16000000
namespace Go.Proofs.YtjhbckngdclleaaGreatDoor
open Go.Proofs.Tryz Go.RowKit
open Go.Value (int)
open Go.IntKind (u64)
theorem putI_any (n:Nat)(w:World)(hn:n<18446744073709551616):
    Cr 121 #[int u64 n] w (.string (strOfNums (be8 n))):=by
  have L:=fun w=>beI_any (n:Int) 8 w (by omega) (by omega) (by omega) (by omega)
  rw [beTo8] at L;clear hn;go_enter func121,ntmps121;go_wp2_with fail;refine(L _).mono ?_;rintro e w' ⟨rfl,hb⟩;go_wp2;go_ret;exact⟨rfl,hb⟩
theorem G.Sides.under {S:List Nat}{W0 w w':World}{B:Nat}(h:G.Sides S W0 w')(hb:Below B w W0)(hS:∀b∈S,B≤b)(hB:B≤W0.heap.size):Below B w w':=
  hb.trans ⟨h.os,h.tape,h.output,h.size,fun k hk=>h.block k (Nat.lt_of_lt_of_le hk hB) (fun hm=>by have:=hS k hm;omega)⟩
end Go.Proofs.YtjhbckngdclleaaGreatDoor
