import Derived.Test.YtijmldjijnpnoaaDoorMrg13
import Derived.RangeFuncNested
import Derived.RangeFuncBound
import Derived.Shelf.RegionOpen
import Derived.OwnWalkIn
import Derived.LoopNIn
import Derived.LoopIn
set_option linter.unusedVariables false
set_option maxRecDepth 100000
set_option maxHeartbeats 16000000
namespace Go.Proofs.YtijmldjijnpnoaaDoor
open Go.Proofs.Tryd Go.RowKit
open Go.Value (int)
open Go.IntKind (u64)
theorem keepC {w1 w2:World}{p:Addr}{v:Value}(h:w1.cell? p=some v)(b:Bl w1 w2):w2.cell? p=some v:=by
  by_cases hl:p.block<w1.heap.size
  · rw [←h];unfold World.cell?;rw [b.block _ hl]
  · exfalso;have:w1.heap[p.block]? =none:=Array.getElem?_eq_none (by omega);simp [World.cell?,this] at h
theorem keepS {w1:World}{p:Addr}{v u:Value}{b i:Nat}(h:w1.cell? p=some v)(hne:p.block≠b):(w1.setCell ⟨b,i,none⟩ u).cell? p=some v:=by
  rw [←h];unfold World.cell?;simp [World.setCell,Array.getElem?_modify,Ne.symm hne]
theorem keepB {n:Nat}{w0 w1 w2:World}(h:Below n w0 w1)(hn:n≤w1.heap.size)(b:Bl w1 w2):Below n w0 w2:=h.trans (b.mono hn)
def R1 (W:World)(b:Nat)(y:Int):Prop:=W.heap[b]? =some (.cells #[int u64 y] 81)
section
variable {W W':World}{b:Nat}{y:Int}
theorem R1.cell (h:R1 W b y):W.cell? ⟨b,0,none⟩=some (int u64 y):=by unfold R1 at h;simp [World.cell?,h]
theorem R1.frz (h:R1 W b y):W.frozen? ⟨b,0,none⟩=false:=by unfold R1 at h;simp [World.frozen?,h]
theorem R1.lt (h:R1 W b y):b<W.heap.size:=(Array.getElem?_eq_some_iff.1 h).1
theorem R1.below {N:Nat}(h:R1 W b y)(hb:Below N W W')(hl:b<N):R1 W' b y:=(hb.block b hl).trans h
theorem R1.keep (h:R1 W b y)(hb:Bl W W'):R1 W' b y:=h.below hb h.lt
theorem R1.new (w:World)(y:Int):R1 (w.alloc (.cells #[int u64 y] 81)) w.heap.size y:=heap_alloc_new w _
theorem R1.alloc (h:R1 W b y)(o:Obj):R1 (W.alloc o) b y:=(Below.heap_alloc W o b h.lt).trans h
theorem R1.drew (h:R1 W b y):R1 W.drew b y:=h
theorem R1.range (h:R1 W b y):W.rangeAt b 0 [int u64 y]:=fun j v hj=>by
  match j,hj with
  |0,hj=>cases hj;exact h.cell
theorem R1.at {b':Nat}(h:R1 W b y)(e:b=b'):R1 W b' y:=e▸h
theorem R1.set (h:R1 W b y)(y':Int):R1 (W.setCell ⟨b,0,none⟩ (int u64 y')) b y':=by
  unfold R1 at*;simp [World.setCell,Array.getElem?_modify,h]
theorem num_res {fn:Func}{p:Tmp}(h:fn.results=#[.cell p 81])(tmps:Array Value)(hp:tmps.getD p undef= .pointer (some ⟨b,0,none⟩))(hc:R1 W b y):
    (results fn tmps).run prog W= .ok (.agg #[int u64 y]) W:=
  results_mid h tmps W b 0 [int u64 y] _ hp hc.range underlying81 rfl (by kernel_rfl)
end
theorem mnP_lt (a b d c:Int)(w:World)(h:a<b)(hd:IntKind.u64.wrap (a-b)=d)(hc:IntKind.u64.wrap (d+2305843009213693951)=c):
    Cr 80 #[.agg #[int u64 a],.agg #[int u64 b]] w (.agg #[int u64 c]):=by
  have hme:=methP;have hf:=foldP;obtain⟨X,hX⟩:∃X,X=((w.alloc (Obj.cells #[int u64 a] 81)).alloc (Obj.cells #[int u64 b] 81)).alloc (Obj.cells #[int u64 0] 81):=⟨_,rfl⟩
  have hX0:X.heap[w.heap.size]? =some (.cells #[int u64 a] 81):=by
    rw [hX];exact(Below.heap_alloc _ _ _ (by simp;omega)).trans ((Below.heap_alloc _ _ _ (by simp)).trans (heap_alloc_new w _))
  have hp1:=partP hX0;have hX1:(X.alloc (Obj.cells #[] 77)).heap[w.heap.size]? =some (.cells #[int u64 a] 81):=(Below.heap_alloc _ _ _ (Array.getElem?_eq_some_iff.1 hX0).1).trans hX0;have hp2:=partP hX1;rw [hX] at hp1 hp2;clear hX hX0 hX1;go_enter func80,ntmps80;go_wp2_with fail;refine(valP _).mono ?_;rintro e w' ⟨rfl,rfl⟩;go_wp2;refine bodyPost_ret (v:= .agg #[int u64 c]) (by simp [results,results80,go_sem]) rfl ⟨rfl,?_⟩;exact((((Below.refl _ _).alloc (Nat.le_refl _) _).alloc (by simp) _).alloc (by simp;omega) _).alloc (by simp;omega) _
theorem mnP_ge (a b d:Int)(w:World)(h:b≤a)(hd:IntKind.u64.wrap (a-b)=d):
    Cr 80 #[.agg #[int u64 a],.agg #[int u64 b]] w (.agg #[int u64 d]):=by
  have hme:=methP;have hf:=foldP;have hlt: ¬ a<b:=by omega
  clear h;obtain⟨X,hX⟩:∃X,X=((w.alloc (Obj.cells #[int u64 a] 81)).alloc (Obj.cells #[int u64 b] 81)).alloc (Obj.cells #[int u64 0] 81):=⟨_,rfl⟩
  have hX0:X.heap[w.heap.size]? =some (.cells #[int u64 a] 81):=by
    rw [hX];exact(Below.heap_alloc _ _ _ (by simp;omega)).trans ((Below.heap_alloc _ _ _ (by simp)).trans (heap_alloc_new w _))
  have hp1:=partP hX0;rw [hX] at hp1;clear hX hX0;go_enter func80,ntmps80;go_wp2;refine bodyPost_ret (v:= .agg #[int u64 d]) (by simp [results,results80,go_sem]) rfl ⟨rfl,?_⟩;exact(((Below.refl _ _).alloc (Nat.le_refl _) _).alloc (by simp) _).alloc (by simp;omega) _
theorem mnP_any (a b c:Int)(w:World)(ha0:0≤a)(ha:a<2305843009213693951)(hb0:0≤b)(hb:b<2305843009213693951)(hc:c=if a<b then a-b+2305843009213693951 else a-b):
    Cr 80 #[.agg #[int u64 a],.agg #[int u64 b]] w (.agg #[int u64 c]):=by
  by_cases h:a<b
  · rw [if_pos h] at hc;exact mnP_lt a b (a-b+18446744073709551616) c w h (by rw [IntKind.wrap_u64];omega) (by rw [IntKind.wrap_u64];omega)
  · rw [if_neg h] at hc;exact mnP_ge a b c w (by omega) (by rw [IntKind.wrap_u64];omega)
theorem ngP_of (a c:Int)(w:World)
    (M:Cc 80 #[.agg #[int u64 0],.agg #[int u64 a]] (.agg #[int u64 c])):
    Cr 66 #[.agg #[int u64 a]] w (.agg #[int u64 c]):=by
  have hf:=foldP;obtain⟨X,hX⟩:∃X,X=(w.alloc (Obj.cells #[int u64 a] 81)).alloc (Obj.cells #[int u64 0] 81):=⟨_,rfl⟩
  have hX0:X.heap[w.heap.size]? =some (.cells #[int u64 a] 81):=by
    rw [hX];exact(Below.heap_alloc _ _ _ (by simp)).trans (heap_alloc_new w _)
  have hp1:=partP hX0;have hr:R1 X (w.heap.size+1) 0:=by rw [hX];exact(R1.new _ 0).at (by simp)
  have hbX:Bl w X:=by rw [hX];exact((Below.refl _ w).alloc (Nat.le_refl _) _).alloc (by simp) _
  rw [hX] at hp1 hr hbX;clear hX hX0;go_enter func66,ntmps66;go_wp2_with fail;refine(M _).mono ?_;rintro e w' ⟨rfl,hb⟩;have hr1:=hr.keep hb;have cc:=hr1.cell;have ff:=hr1.frz;have hb2:=keepB hbX (by simp;omega) hb;clear hb hbX hr hp1;go_wp2;exact bodyPost_ret (v:= .agg #[int u64 c]) (num_res (fn:=Tryd.f66) (p:=2) results66 _ rfl (hr1.set c)) rfl ⟨rfl,hb2.setCell (p:=⟨w.heap.size+1,0,none⟩) (by simp) _⟩
theorem plP_of (a b d c:Int)(w:World)
    (N:Cc 66 #[.agg #[int u64 b]] (.agg #[int u64 d]))
    (M:Cc 80 #[.agg #[int u64 a],.agg #[int u64 d]] (.agg #[int u64 c])):
    Cr 67 #[.agg #[int u64 a],.agg #[int u64 b]] w (.agg #[int u64 c]):=by
  obtain⟨X,hX⟩:∃X,X=(((w.alloc (Obj.cells #[int u64 a] 81)).alloc (Obj.cells #[int u64 b] 81)).alloc (Obj.cells #[int u64 0] 81)).drew:=⟨_,rfl⟩;have hr:R1 X (w.heap.size+1+1) 0:=by rw [hX];exact((R1.new _ 0).drew).at (by simp)
  have hbX:Bl w X:=by rw [hX];exact((((Below.refl _ w).alloc (Nat.le_refl _) _).alloc (by simp) _).alloc (by simp;omega) _).drew
  have hl:w.heap.size≤X.heap.size:=hbX.size;rw [hX] at hr hbX hl;clear hX;go_enter func67,ntmps67;go_wp2
  go_region_held3 (fun w'=>w'.cell? ⟨w.heap.size,0,none⟩=some (int u64 a)∧w'.cell? ⟨w.heap.size+1,0,none⟩=some (int u64 b)) (first|exact ⟨keepC (keepC (by simp [go_sem]) b1) b2,keepC (keepC (by simp [go_sem]) b1) b2⟩|exact ⟨keepC (by simp [go_sem]) b1,keepC (by simp [go_sem]) b1⟩|exact ⟨keepS (keepC (keepC (by simp [go_sem]) b1) b2) (by simp;omega),keepS (keepC (keepC (by simp [go_sem]) b1) b2) (by simp)⟩|go_keep) (first
    |(go_at_call 66;refine(N _).mono ?_;rintro e w1 ⟨rfl,b1⟩)
    |(go_at_call 80;refine(M _).mono ?_;rintro e w2 ⟨rfl,b2⟩;have hr2:=(hr.keep b1).keep b2;have cc:=hr2.cell;have ff:=hr2.frz))
  go_wp2;have hb2:=keepB (keepB hbX hl b1) (Nat.le_trans hl b1.size) b2;exact bodyPost_ret (v:= .agg #[int u64 c]) (num_res (fn:=Tryd.f67) (p:=4) results67 _ rfl (hr2.set c)) rfl ⟨rfl,hb2.setCell (p:=⟨w.heap.size+1+1,0,none⟩) (by simp;omega) _⟩
section
open Go.Shelf
attribute [local go_sem] Oper.semAt_some
end
section
open Go.Shelf
attribute [local go_sem] Oper.semAt_some
end
section
open Go.Shelf
attribute [local go_sem] Oper.semAt_some
end
end Go.Proofs.YtijmldjijnpnoaaDoor
