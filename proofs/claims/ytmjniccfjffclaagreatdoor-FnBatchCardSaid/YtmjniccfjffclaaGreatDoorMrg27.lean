import Derived.Test.YtmjniccfjffclaaGreatDoorMrg20
set_option linter.unusedVariables false
set_option maxRecDepth 100000
set_option maxHeartbeats 16000000
namespace Go.Proofs.YtmjniccfjffclaaGreatDoor
open Go.Proofs.Tryz Go.RowKit
open Go.Value (int)
open Go.IntKind (u64)
section
open M
theorem baseS (w:World):Cr 16 #[] w (ptW gG):=by
  go_enter func16,ntmps16;go_wp2;refine bodyPost_ret (v:= .agg #[int u64 1,int u64 509478702933351334,.bool false]) (by simp [results,results16,go_sem]) rfl ⟨rfl,(Below.refl _ w).alloc (Nat.le_refl _) _⟩
end
theorem putI_any (n:Nat)(w:World)(hn:n<18446744073709551616):
    Cr 228 #[int u64 n] w (.string (strOfNums (be8 n))):=by
  have L:=fun w=>beI_any (n:Int) 8 w (by omega) (by omega) (by omega) (by omega)
  rw [beTo8] at L;clear hn;go_enter func228,ntmps228;go_wp2_with fail;refine(L _).mono ?_;rintro e w' ⟨rfl,hb⟩;go_wp2;go_ret;exact⟨rfl,hb⟩
theorem methN (w:World):(method 432 84 (.agg #[]) "loop.example/s02095/impl.value").run prog w= .ok (230,.agg #[]) w:=by kernel_rfl
theorem valN (w:World):
    Calls prog 230 #[.agg #[]] w fun e w'=>e= .returned (int u64 2305843010818082053)∧w'=w.alloc (.cells #[] 84):=by
  go_enter func230,ntmps230;go_wp2;go_ret;exact⟨rfl,rfl⟩
theorem foldN:Array.foldl (fun(cs:Array Value) (x:Value×Nat)=>cs.setIfInBounds x.snd x.fst) #[Value.int IntKind.u64 0] (#[]:Array Value).zipIdx 0 0=#[Value.int .u64 0]:=rfl
theorem exN_less (x:Int)(w:World)(h1:x<2305843010818082053):
    Cr 39 #[int u64 x,.agg #[]] w (.tuple #[.agg #[int u64 x],.bool true]):=by
  have hm:=methN;have hbd:=foldN;go_enter func39,ntmps39;go_wp2_with fail;refine(valN _).mono ?_;rintro e w' ⟨rfl,rfl⟩;go_wp2;refine bodyPost_ret (v:= .tuple #[.agg #[int u64 x],.bool true]) (by simp [results,results39,go_sem]) rfl ⟨rfl,?_⟩;exact(((Below.refl _ w).alloc (Nat.le_refl _) _).alloc (by simp) _).alloc (by simp;omega) _
theorem exN_more (x:Int)(w:World)(h1:2305843010818082053≤x):
    Cr 39 #[int u64 x,.agg #[]] w (.tuple #[.agg #[int u64 0],.bool false]):=by
  have hm:=methN;go_enter func39,ntmps39;go_wp2_with fail;refine(valN _).mono ?_;rintro e w' ⟨rfl,rfl⟩;go_wp2;refine bodyPost_ret (v:= .tuple #[.agg #[int u64 0],.bool false]) (by simp [results,results39,go_sem]) rfl ⟨rfl,?_⟩;exact(((Below.refl _ w).alloc (Nat.le_refl _) _).alloc (by simp) _).alloc (by simp;omega) _
theorem exN_any (k:Nat)(w:World):
    Cr 39 #[int u64 k,.agg #[]] w (.tuple #[.agg #[int u64 (if k<2305843010818082053 then (k:Int) else 0)],.bool (decide (k<2305843010818082053))]):=by
  by_cases h:k<2305843010818082053
  · rw [if_pos h,decide_eq_true h];exact exN_less k w (by omega)
  · rw [if_neg h,decide_eq_false h];exact exN_more k w (by omega)
theorem G.Sides.under {S:List Nat}{W0 w w':World}{B:Nat}(h:G.Sides S W0 w')(hb:Below B w W0)(hS:∀b∈S,B≤b)(hB:B≤W0.heap.size):Below B w w':=
  hb.trans ⟨h.os,h.tape,h.output,h.size,fun k hk=>h.block k (Nat.lt_of_lt_of_le hk hB) (fun hm=>by have:=hS k hm;omega)⟩
end Go.Proofs.YtmjniccfjffclaaGreatDoor
