import Derived.Test.YtjhbckngdclleaaGreatDoorMrg32
set_option linter.unusedVariables false
set_option maxRecDepth 100000
set_option maxHeartbeats 16000000
namespace Go.Proofs.YtjhbckngdclleaaGreatDoor
open Go.Proofs.Tryz Go.RowKit
open Go.Value (int)
open Go.IntKind (u64)
def nameB (s:ByteArray):Bool:=decide (1≤s.size∧s.size≤32)
section
open M
def wPrv:ByteArray:=⟨#[80,114,105,118,97,116,101]⟩
def wAut:ByteArray:=⟨#[65,117,116,104]⟩
def wExp:ByteArray:=⟨#[69,120,112,111,114,116]⟩
def slX (s:ByteArray):ByteArray:=strOfNums (hmacF (byt ⟨#[]⟩) (byt s))
theorem slX_size (s:ByteArray):(slX s).size=32:=by unfold slX;rw [strOfNums_size,hmacF_length]
def prB (s n word:ByteArray):ByteArray:=exB (slX s) (n++word)
theorem exB_size (x i:ByteArray):(exB x i).size=32:=by
  unfold exB;rw [strOfNums_size,expF,List.length_take,outTo_length];omega
theorem prB_size (s n word:ByteArray):(prB s n word).size=32:=exB_size _ _
def prK (s n:ByteArray):Nat×Int:=dkV 0 (prB s n wPrv) wCli
theorem dkR_small (f:Nat→Nat)(h:∀i,f i<18446744073709551616):∀(n i:Nat),(dkR f i n).1<18446744073709551616
  |0,i=>by show 0<_;decide
  | n+1,i=>by
    rw [dkR];split
    · exact dkR_small f h n (i+1)
    · exact h i
theorem prK_eq (s n:ByteArray):prK s n=dkR (dkN 0 (prB s n wPrv) wCli) 0 256:=by
  have hB:dkB 0 (prB s n wPrv) wCli=true:=decide_eq_true ⟨⟨by decide,by decide⟩,prB_size _ _ _,by decide⟩;unfold prK dkV;rw [hB,if_pos rfl];exact congrArg (fun k=>dkR (dkN k (prB s n wPrv) wCli) 0 256) (show(0:Int).toNat=0 from rfl)
theorem prK_lt (s n:ByteArray):(prK s n).1<18446744073709551616:=by
  rw [prK_eq];exact dkR_small _ (fun i=>Nat.lt_trans (Nat.mod_lt _ (by decide)) (by decide)) _ _
noncomputable def slM (s n:ByteArray) (t:Tri) (u:ByteArray):ByteArray:=strOfNums (hmacF (byt (prB s n wAut)) (byt (n++pB (asT t)++sizB u)))
theorem slM_size (s n:ByteArray)(t:Tri)(u:ByteArray):(slM s n t u).size=32:=by unfold slM;rw [strOfNums_size,hmacF_length]
noncomputable def slC (s n:ByteArray) (t:Tri) (u:ByteArray):Bool:=decide (s.size=32)&&decide (n.size=16)&&elT t&&nameB u
noncomputable def slO (s n:ByteArray) (t:Tri) (u:ByteArray):Bool:=slC s n t u&&decide ((prK s n).2=0)
noncomputable def slP (s n:ByteArray):Pt:=nt (prK s n).1 gG
def rcZ:List Value:= [.string ⟨#[]⟩,int u64 0,int u64 0,.bool false,.string ⟨#[]⟩]
noncomputable def rcL (s n:ByteArray) (t:Tri) (u:ByteArray):List Value:=if slO s n t u then [.string u,int u64 (px (slP s n)),int u64 (py (slP s n)),.bool (pb (slP s n)),.string (n++slM s n t u)] else rcZ
noncomputable def xpB (s n:ByteArray) (t:Tri) (u:ByteArray):ByteArray:=if slO s n t u then prB s n wExp else ⟨#[]⟩
theorem asG:asPt 1 509478702933351334 false=gG:=asPt_some (toPt_self gG_on)
end
theorem nmI (s:ByteArray)(w:World):Calls prog 103 #[.string s] w fun e w'=>e= .returned (.bool (nameB s))∧w=w':=by
  by_cases h1:(1:Int)≤(s.size:Int)
  · by_cases h2:(s.size:Int)≤32
    · have e:nameB s=true:=decide_eq_true (by omega);rw [e];go_enter func103,ntmps103;go_wp2;go_ret;exact⟨rfl,rfl⟩
    · have e:nameB s=false:=decide_eq_false (by omega);rw [e];go_enter func103,ntmps103;go_wp2;go_ret;exact⟨rfl,rfl⟩
  · have e:nameB s=false:=decide_eq_false (by omega);rw [e];go_enter func103,ntmps103;go_wp2;go_ret;exact⟨rfl,rfl⟩
section
open M
end
end Go.Proofs.YtjhbckngdclleaaGreatDoor
