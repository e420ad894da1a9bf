import Derived.Test.YtijmldjijnpnoaaDoorMrg6
set_option linter.unusedVariables false
set_option maxRecDepth 100000
set_option maxHeartbeats 16000000
namespace Go.Proofs.YtijmldjijnpnoaaDoor
open Go.Proofs.Tryd Go.RowKit
open Go.Value (int)
open Go.IntKind (u64)
section
open M
section
variable {W:World}{b:Nat}{x y:Int}{c:Bool}
def set3 (W:World)(b:Nat)(x y:Int)(c:Bool):World:=((W.setCell ⟨b,0,none⟩ (int u64 x)).setCell ⟨b,1,none⟩ (int u64 y)).setCell ⟨b,2,none⟩ (.bool c)
theorem set3_below {N:Nat}{w:World}(h:Below N w W)(hb:N≤b):Below N w (set3 W b x y c):=
  ((h.setCell (p:=⟨b,0,none⟩) hb _).setCell (p:=⟨b,1,none⟩) hb _).setCell (p:=⟨b,2,none⟩) hb _
end
def K3 (W:World)(t:TypeId)(b:Nat)(x y:Int)(c:Bool):Prop:=W.heap[b]? =some (.cells #[int u64 x,int u64 y,.bool c] t)
section
variable {W W':World}{t:TypeId}{b:Nat}{x y:Int}{c:Bool}
theorem K3.c0 (h:K3 W t b x y c):W.cell? ⟨b,0,none⟩=some (int u64 x):=by unfold K3 at h;simp [World.cell?,h]
theorem K3.c1 (h:K3 W t b x y c):W.cell? ⟨b,1,none⟩=some (int u64 y):=by unfold K3 at h;simp [World.cell?,h]
theorem K3.c2 (h:K3 W t b x y c):W.cell? ⟨b,2,none⟩=some (.bool c):=by unfold K3 at h;simp [World.cell?,h]
theorem K3.frz (h:K3 W t b x y c)(i:Nat):W.frozen? ⟨b,i,none⟩=false:=by unfold K3 at h;simp [World.frozen?,h]
theorem K3.lt (h:K3 W t b x y c):b<W.heap.size:=(Array.getElem?_eq_some_iff.1 h).1
theorem K3.keep (h:K3 W t b x y c)(hb:Bl W W'):K3 W' t b x y c:=(hb.block b h.lt).trans h
theorem K3.new (w:World)(t:TypeId)(x y:Int)(c:Bool):K3 (w.alloc (.cells #[int u64 x,int u64 y,.bool c] t)) t w.heap.size x y c:=heap_alloc_new w _
theorem K3.alloc (h:K3 W t b x y c)(o:Obj):K3 (W.alloc o) t b x y c:=(Below.heap_alloc W o b h.lt).trans h
theorem K3.drew (h:K3 W t b x y c):K3 W.drew t b x y c:=h
theorem K3.at {b':Nat}(h:K3 W t b x y c)(e:b=b'):K3 W t b' x y c:=e▸h
theorem K3.range (h:K3 W t b x y c):W.rangeAt b 0 [int u64 x,int u64 y,.bool c]:=fun j v hj=>by
  match j,hj with
  |0,hj=>cases hj;exact h.c0
  |1,hj=>cases hj;exact h.c1
  |2,hj=>cases hj;exact h.c2
theorem K3.set (h:K3 W t b x y c)(x' y':Int)(c':Bool):K3 (set3 W b x' y' c') t b x' y' c':=by
  unfold K3 set3 at*;simp [World.setCell,Array.getElem?_modify,h]
end
end
section
open M
def px:Pt→Int
  |none=>0
  |some (x,_)=>fv x
def py:Pt→Int
  |none=>0
  |some (_,y)=>fv y
def pb:Pt→Bool
  |none=>true
  |some _=>false
theorem ptW_eq:∀p,ptW p= .agg #[int u64 (px p),int u64 (py p),.bool (pb p)]
  |none=>rfl
  |some (_,_)=>rfl
def R3 (W:World)(b:Nat)(x y:Int)(c:Bool):Prop:=W.heap[b]? =some (.cells #[int u64 x,int u64 y,.bool c] 28)
variable {W W':World}{b:Nat}{x y:Int}{c:Bool}
theorem R3.c0 (h:R3 W b x y c):W.cell? ⟨b,0,none⟩=some (int u64 x):=by unfold R3 at h;simp [World.cell?,h]
theorem R3.c1 (h:R3 W b x y c):W.cell? ⟨b,1,none⟩=some (int u64 y):=by unfold R3 at h;simp [World.cell?,h]
theorem R3.below {N:Nat}(h:R3 W b x y c)(hb:Below N W W')(hl:b<N):R3 W' b x y c:=(hb.block b hl).trans h
theorem R3.new (w:World)(x y:Int)(c:Bool):R3 (w.alloc (.cells #[int u64 x,int u64 y,.bool c] 28)) w.heap.size x y c:=heap_alloc_new w _
end
section
open M
noncomputable def toPt (x y:Nat) (b:Bool):Option Pt:=
  if b=true then (if x=0∧y=0 then some none else none)
  else if h:x<2305843009213693951∧y<2305843009213693951 then
    (if (⟨y,h.2⟩:Fp)*⟨y,h.2⟩=crv ⟨x,h.1⟩ then some (some (⟨x,h.1⟩,⟨y,h.2⟩)) else none)
  else none
theorem toPt_W {x y:Nat}{b:Bool}{p:Pt}(h:toPt x y b=some p):(.agg #[int u64 x,int u64 y,.bool b]:Value)=ptW p:=by
  unfold toPt at h;split at h
  · split at h
    · rename_i hb hxy
      obtain⟨rfl,rfl⟩:=hxy;subst hb;cases h;rfl
    · cases h
  · split at h
    · split at h
      · rename_i hb _ _
        have hb':b=false:=by simpa using hb
        subst hb';cases h;rfl
      · cases h
    · cases h
end
end Go.Proofs.YtijmldjijnpnoaaDoor
