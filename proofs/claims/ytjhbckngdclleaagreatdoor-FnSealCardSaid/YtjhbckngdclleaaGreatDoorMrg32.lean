import Derived.Test.YtjhbckngdclleaaGreatDoorMrg31
set_option linter.unusedVariables false
set_option maxRecDepth 100000
set_option maxHeartbeats 16000000
namespace Go.Proofs.YtjhbckngdclleaaGreatDoor
open Go.Proofs.Tryz Go.RowKit
open Go.Value (int)
open Go.IntKind (u64)
section
open M
def pB (p:Pt):ByteArray:=strOfNums (be8 (putN p:Nat))
theorem pB_size (p:Pt):(pB p).size=8:=by unfold pB;rw [strOfNums_size];rfl
def exB (x i:ByteArray):ByteArray:=strOfNums (expF (byt x) (byt i) 32)
def wCli:ByteArray:=⟨#[67,108,105,101,110,116]⟩
end
theorem extractS_any (key s:ByteArray)(w:World)(hk:key.size≤33554432)(hs:s.size≤33554432):
    Cr 67 #[.string key,.string s] w (.string (strOfNums (hmacF (byt key) (byt s)))):=by
  go_enter func67,ntmps67;go_wp2_with fail;refine(hmacS_any key s w hk hs).mono ?_;rintro e W1 ⟨rfl,hb1⟩;go_wp2;go_ret;exact⟨rfl,hb1⟩
section
open M
theorem cfpS (args:Array Value)(w:World):(callFunc 45 args).run prog w= .ok (.enter 45 args) w:=by kernel_rfl
end
def dkW:ByteArray:=⟨#[68,101,114,105,118,101,75,101,121,80,97,105,114]⟩
def dkM (seed info:ByteArray)(i:Nat):ByteArray:=seed++sizB info++strOfNums [(i:Int)]
def dkN (k:Nat)(seed info:ByteArray)(i:Nat):Nat:=hNum (dkM seed info i) (tagB dkW k) 2305843010818082053 1 0
def dkR (f:Nat→Nat):Nat→Nat→Nat×Int
  |_,0=>(0,3)
  |i,n+1=>if f i=0 then dkR f (i+1) n else (f i,0)
def dkB (mode:Int)(seed info:ByteArray):Bool:=decide ((0≤mode∧mode≤2)∧seed.size=32∧info.size≤60000)
def dkV (mode:Int)(seed info:ByteArray):Nat×Int:=if dkB mode seed info=true then dkR (dkN mode.toNat seed info) 0 256 else (0,1)
theorem dkT_size (k:Nat)(h:k<3):(tagB dkW k).size=25:=tagB_size _ k h
theorem sizB_sz (s:ByteArray):(sizB s).size=s.size+2:=by
  unfold sizB;rw [ByteArray.size_append,strOfNums_size];simp only [List.length_cons,List.length_nil];omega
theorem dkM_size (seed info:ByteArray)(i:Nat):(dkM seed info i).size=seed.size+info.size+3:=by
  unfold dkM;rw [ByteArray.size_append,ByteArray.size_append,sizB_sz,strOfNums_size];simp only [List.length_cons,List.length_nil];omega
theorem dkR_step {f:Nat→Nat}{j:Nat}(hj:j<256)(h:f j=0):dkR f j (256-j)=dkR f (j+1) (256-(j+1)):=by
  rw [show 256-j=(256-(j+1))+1 by omega];show(if f j=0 then _ else _)=_;rw [if_pos h]
theorem dkR_hit {f:Nat→Nat}{j:Nat}(hj:j<256)(h: ¬ f j=0):dkR f j (256-j)=(f j,0):=by
  rw [show 256-j=(256-(j+1))+1 by omega];show(if f j=0 then _ else _)=_;rw [if_neg h]
theorem dk_mod {mode:Int}(h1:0≤mode)(h2:mode≤2):mode.toNat<3∧((mode.toNat:Nat):Int)=mode:=by omega
end Go.Proofs.YtjhbckngdclleaaGreatDoor
