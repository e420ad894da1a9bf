import Derived.Test.YtjhbckngdclleaaGreatDoorMrg27
set_option linter.unusedVariables false
set_option maxRecDepth 100000
set_option maxHeartbeats 16000000
namespace Go.Proofs.YtjhbckngdclleaaGreatDoor
open Go.Proofs.Tryz Go.RowKit
open Go.Value (int)
open Go.IntKind (u64)
def Bk (W:World)(t:TypeId)(b:Nat)(cs:Array Value):Prop:=W.heap[b]? =some (.cells cs t)
section
variable {W W':World}{t:TypeId}{b:Nat}{cs:Array Value}
theorem Bk.cell (h:Bk W t b cs){k:Nat}{v:Value}(hk:cs[k]? =some v):W.cell? ⟨b,k,none⟩=some v:=by
  rw [cell_of_row _ _ _ _ _ _ h];exact hk
theorem Bk.frz (h:Bk W t b cs)(i:Nat):W.frozen? ⟨b,i,none⟩=false:=by unfold Bk at h;simp [World.frozen?,h]
theorem Bk.lt (h:Bk W t b cs):b<W.heap.size:=(Array.getElem?_eq_some_iff.1 h).1
theorem Bk.keep (h:Bk W t b cs)(hb:Bl W W'):Bk W' t b cs:=(hb.block b h.lt).trans h
theorem Bk.new (w:World)(t:TypeId)(cs:Array Value):Bk (w.alloc (.cells cs t)) t w.heap.size cs:=heap_alloc_new w _
theorem Bk.alloc (h:Bk W t b cs)(o:Obj):Bk (W.alloc o) t b cs:=(Below.heap_alloc W o b h.lt).trans h
theorem Bk.range (h:Bk W t b cs):W.rangeAt b 0 cs.toList:=fun j v hj=>by
  rw [Nat.zero_add];exact h.cell (by rw [←hj,Array.getElem?_toList])
theorem Bk.set (h:Bk W t b cs)(i:Nat)(v:Value):Bk (W.setCell ⟨b,i,none⟩ v) t b (cs.setIfInBounds i v):=by
  unfold Bk at*;simp [World.setCell,Array.getElem?_modify,h]
theorem bk_res1 {fn:Func}{p:Tmp}{d:TypeDesc}(h:fn.results=#[.cell p t])(tmps:Array Value)(hp:tmps.getD p undef= .pointer (some ⟨b,0,none⟩))(hc:Bk W t b cs)(hu:prog.underlying t=some d)(hd:d.isRow=true)(hi:(prog.info? t).map (·.size)=some cs.size):
    (results fn tmps).run prog W= .ok (.agg cs) W:=by
  have hp':tmps[p]?.getD undef= .pointer (some ⟨b,0,none⟩):=by simpa using hp
  have hl:=run_loadVar_mid (P:=prog) W b 0 t cs.toList d hc.range hu hd (by rw [hi,Array.length_toList]);simp [results,h,hp',asAddr,hl]
theorem bk_res2 {fn:Func}{p u:Tmp}{d:TypeDesc}(h:fn.results=#[.cell p t,.tmp u])(tmps:Array Value)(hp:tmps.getD p undef= .pointer (some ⟨b,0,none⟩))(hc:Bk W t b cs)(hu:prog.underlying t=some d)(hd:d.isRow=true)(hi:(prog.info? t).map (·.size)=some cs.size):
    (results fn tmps).run prog W= .ok (.tuple #[.agg cs,tmps.getD u undef]) W:=by
  have hp':tmps[p]?.getD undef= .pointer (some ⟨b,0,none⟩):=by simpa using hp
  have hl:=run_loadVar_mid (P:=prog) W b 0 t cs.toList d hc.range hu hd (by rw [hi,Array.length_toList]);simp [results,h,hp',asAddr,hl]
end
end Go.Proofs.YtjhbckngdclleaaGreatDoor
