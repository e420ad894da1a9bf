import Derived.Test.YtjhbckngdclleaaGreatDoorMrg6
set_option linter.unusedVariables false
set_option maxRecDepth 100000
set_option maxHeartbeats 16000000
namespace Go.Proofs.YtjhbckngdclleaaGreatDoor
open Go.Proofs.Tryz Go.RowKit
open Go.Value (int)
open Go.IntKind (u64)
section
open M
def px:Pt→Int
  |none=>0
  |some (x,_)=>fv x
def py:Pt→Int
  |none=>0
  |some (_,y)=>fv y
def pb:Pt→Bool
  |none=>true
  |some _=>false
theorem ptW_eq:∀p,ptW p= .agg #[int u64 (px p),int u64 (py p),.bool (pb p)]
  |none=>rfl
  |some (_,_)=>rfl
theorem sumS_xyz (p q:Pt)(w:World):
    Cr 71 #[.agg #[int u64 (px p),int u64 (py p),.bool (pb p)],.agg #[int u64 (px q),int u64 (py q),.bool (pb q)]] w (.agg #[int u64 (px (ad p q)),int u64 (py (ad p q)),.bool (pb (ad p q))]):=by
  have:=sumS_any p q w;rwa [ptW_eq,ptW_eq,ptW_eq] at this
def R3 (W:World)(b:Nat)(x y:Int)(c:Bool):Prop:=W.heap[b]? =some (.cells #[int u64 x,int u64 y,.bool c] 27)
variable {W W':World}{b:Nat}{x y:Int}{c:Bool}
theorem R3.c0 (h:R3 W b x y c):W.cell? ⟨b,0,none⟩=some (int u64 x):=by unfold R3 at h;simp [World.cell?,h]
theorem R3.c1 (h:R3 W b x y c):W.cell? ⟨b,1,none⟩=some (int u64 y):=by unfold R3 at h;simp [World.cell?,h]
theorem R3.c2 (h:R3 W b x y c):W.cell? ⟨b,2,none⟩=some (.bool c):=by unfold R3 at h;simp [World.cell?,h]
theorem R3.frz (h:R3 W b x y c)(i:Nat):W.frozen? ⟨b,i,none⟩=false:=by unfold R3 at h;simp [World.frozen?,h]
theorem R3.lt (h:R3 W b x y c):b<W.heap.size:=(Array.getElem?_eq_some_iff.1 h).1
theorem R3.below {N:Nat}(h:R3 W b x y c)(hb:Below N W W')(hl:b<N):R3 W' b x y c:=(hb.block b hl).trans h
theorem R3.new (w:World)(x y:Int)(c:Bool):R3 (w.alloc (.cells #[int u64 x,int u64 y,.bool c] 27)) w.heap.size x y c:=heap_alloc_new w _
theorem R3.alloc (h:R3 W b x y c)(o:Obj):R3 (W.alloc o) b x y c:=(Below.heap_alloc W o b h.lt).trans h
theorem R3.at {b':Nat}(h:R3 W b x y c)(e:b=b'):R3 W b' x y c:=e▸h
theorem R3.range (h:R3 W b x y c):W.rangeAt b 0 [int u64 x,int u64 y,.bool c]:=fun j v hj=>by
  match j,hj with
  |0,hj=>cases hj;exact h.c0
  |1,hj=>cases hj;exact h.c1
  |2,hj=>cases hj;exact h.c2
theorem R3.set (h:R3 W b x y c)(x' y':Int)(c':Bool):R3 (set3 W b x' y' c') b x' y' c':=by
  unfold R3 set3 at*;simp [World.setCell,Array.getElem?_modify,h]
theorem R3.other {b':Nat}(h:R3 W b x y c)(hne:b≠b')(x' y':Int)(c':Bool):R3 (set3 W b' x' y' c') b x y c:=by
  unfold R3 set3 at*;rw [setCell_heap3 _ _ _ _ _ hne,setCell_heap3 _ _ _ _ _ hne,setCell_heap3 _ _ _ _ _ hne];exact h
theorem point_res {fn:Func}{p:Tmp}(h:fn.results=#[.cell p 27])(tmps:Array Value)(hp:tmps.getD p undef= .pointer (some ⟨b,0,none⟩))(hc:R3 W b x y c):
    (results fn tmps).run prog W= .ok (.agg #[int u64 x,int u64 y,.bool c]) W:=
  results_mid h tmps W b 0 [int u64 x,int u64 y,.bool c] _ hp hc.range underlying27 rfl (by kernel_rfl)
end
section
open M
theorem pt_ct {W:World}{b:Nat}{x y:Int}{c:Bool}{fn:Func}{p u:Tmp}(h:fn.results=#[.cell p 27,.tmp u])(tmps:Array Value)
    (hp:tmps.getD p undef= .pointer (some ⟨b,0,none⟩))(hc:R3 W b x y c):
    (results fn tmps).run prog W= .ok (.tuple #[.agg #[int u64 x,int u64 y,.bool c],tmps.getD u undef]) W:=by
  have hp':tmps[p]?.getD undef= .pointer (some ⟨b,0,none⟩):=by simpa using hp
  simp [results,h,hp',asAddr,run_loadVar_mid W b 0 27 [int u64 x,int u64 y,.bool c] _ hc.range underlying27 rfl (by kernel_rfl)]
noncomputable def toPt (x y:Nat) (b:Bool):Option Pt:=
  if b=true then (if x=0∧y=0 then some none else none)
  else if h:x<2305843009213693951∧y<2305843009213693951 then
    (if (⟨y,h.2⟩:Fp)*⟨y,h.2⟩=crv ⟨x,h.1⟩ then some (some (⟨x,h.1⟩,⟨y,h.2⟩)) else none)
  else none
theorem toPt_on {x y:Nat}{b:Bool}{p:Pt}(h:toPt x y b=some p):on p:=by
  unfold toPt at h;split at h
  · split at h
    · cases h;trivial
    · cases h
  · split at h
    · split at h
      · cases h;assumption
      · cases h
    · cases h
theorem toPt_W {x y:Nat}{b:Bool}{p:Pt}(h:toPt x y b=some p):(.agg #[int u64 x,int u64 y,.bool b]:Value)=ptW p:=by
  unfold toPt at h;split at h
  · split at h
    · rename_i hb hxy
      obtain⟨rfl,rfl⟩:=hxy;subst hb;cases h;rfl
    · cases h
  · split at h
    · split at h
      · rename_i hb _ _
        have hb':b=false:=by simpa using hb
        subst hb';cases h;rfl
      · cases h
    · cases h
noncomputable def asPt (x y:Nat) (b:Bool):Pt:=(toPt x y b).getD none
theorem asPt_on (x y:Nat)(b:Bool):on (asPt x y b):=by
  unfold asPt
  cases h:toPt x y b with
  |none=>trivial
  |some p=>exact toPt_on h
theorem asPt_some {x y:Nat}{b:Bool}{p:Pt}(h:toPt x y b=some p):asPt x y b=p:=by unfold asPt;rw [h];rfl
end
end Go.Proofs.YtjhbckngdclleaaGreatDoor
