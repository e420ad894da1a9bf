import Derived.Test.YtjhbckngdclleaaGreatDoorMrg6
set_option linter.unusedVariables false
set_option maxRecDepth 100000
set_option maxHeartbeats 16000000
namespace Go.Proofs.YtjhbckngdclleaaGreatDoor
open Go.Proofs.Tryz Go.RowKit
open Go.Value (int)
open Go.IntKind (u64)
section
open M
theorem pt_ct {W:World}{b:Nat}{x y:Int}{c:Bool}{fn:Func}{p u:Tmp}(h:fn.results=#[.cell p 27,.tmp u])(tmps:Array Value)
    (hp:tmps.getD p undef= .pointer (some ⟨b,0,none⟩))(hc:R3 W b x y c):
    (results fn tmps).run prog W= .ok (.tuple #[.agg #[int u64 x,int u64 y,.bool c],tmps.getD u undef]) W:=by
  have hp':tmps[p]?.getD undef= .pointer (some ⟨b,0,none⟩):=by simpa using hp
  simp [results,h,hp',asAddr,run_loadVar_mid W b 0 27 [int u64 x,int u64 y,.bool c] _ hc.range underlying27 rfl (by kernel_rfl)]
noncomputable def toPt (x y:Nat) (b:Bool):Option Pt:=
  if b=true then (if x=0∧y=0 then some none else none)
  else if h:x<2305843009213693951∧y<2305843009213693951 then
    (if (⟨y,h.2⟩:Fp)*⟨y,h.2⟩=crv ⟨x,h.1⟩ then some (some (⟨x,h.1⟩,⟨y,h.2⟩)) else none)
  else none
theorem toPt_on {x y:Nat}{b:Bool}{p:Pt}(h:toPt x y b=some p):on p:=by
  unfold toPt at h;split at h
  · split at h
    · cases h;trivial
    · cases h
  · split at h
    · split at h
      · cases h;assumption
      · cases h
    · cases h
theorem toPt_W {x y:Nat}{b:Bool}{p:Pt}(h:toPt x y b=some p):(.agg #[int u64 x,int u64 y,.bool b]:Value)=ptW p:=by
  unfold toPt at h;split at h
  · split at h
    · rename_i hb hxy
      obtain⟨rfl,rfl⟩:=hxy;subst hb;cases h;rfl
    · cases h
  · split at h
    · split at h
      · rename_i hb _ _
        have hb':b=false:=by simpa using hb
        subst hb';cases h;rfl
      · cases h
    · cases h
noncomputable def asPt (x y:Nat) (b:Bool):Pt:=(toPt x y b).getD none
theorem asPt_on (x y:Nat)(b:Bool):on (asPt x y b):=by
  unfold asPt
  cases h:toPt x y b with
  |none=>trivial
  |some p=>exact toPt_on h
theorem asPt_some {x y:Nat}{b:Bool}{p:Pt}(h:toPt x y b=some p):asPt x y b=p:=by unfold asPt;rw [h];rfl
theorem toPt_self {X Y:Fp}(h:on (some (X,Y))):toPt X.val Y.val false=some (some (X,Y)):=by
  unfold toPt;rw [if_neg (by decide),dif_pos ⟨X.isLt,Y.isLt⟩];exact if_pos h
end
end Go.Proofs.YtjhbckngdclleaaGreatDoor
