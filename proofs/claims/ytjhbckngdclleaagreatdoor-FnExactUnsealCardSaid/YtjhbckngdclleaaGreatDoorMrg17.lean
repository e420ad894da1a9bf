import Derived.Test.YtjhbckngdclleaaGreatDoorMrg16
set_option linter.unusedVariables false
set_option maxRecDepth 100000
set_option maxHeartbeats 16000000
namespace Go.Proofs.YtjhbckngdclleaaGreatDoor
open Go.Proofs.Tryz Go.RowKit
open Go.Value (int)
open Go.IntKind (u64)
def okT (msg tag:ByteArray):Prop:=1≤tag.size∧tag.size≤255∧msg.size≤65535
theorem okT_H {msg tag:ByteArray}{m:Nat}{c:Int}(h0:m≠0)(h1:1≤c)(h2:c≤340):okT msg tag↔okH msg tag m c:=by
  constructor
  · rintro⟨h3,h4,h5⟩;exact⟨h1,h2,h0,h3,h4,by omega,by omega,h5⟩
  · rintro⟨-,-,-,h3,h4,-,-,h5⟩;exact⟨h3,h4,h5⟩
def hNum (msg tag:ByteArray)(m c i:Nat):Nat:=numL (piece (expM (byt msg) (byt tag) (24*c)) i)%m
theorem h2f_at (msg tag:ByteArray)(m c i:Nat)(hi:i<c):lk (h2f (byt msg) (byt tag) m c) i=(hNum msg tag m c i:Nat):=by
  unfold lk h2f hNum;rw [List.getD_eq_getElem?_getD,List.getElem?_map,List.getElem?_range hi];rfl
theorem h2sS_yes (msg tag:ByteArray)(w:World)(h:okT msg tag):
    Cr 54 #[.string msg,.string tag] w (.tuple #[int u64 (hNum msg tag 2305843010818082053 1 0:Nat),.bool true]):=by
  have X:∀w,Calls prog 107 #[.string msg,.string tag,int u64 2305843010818082053,.int .i64 1] w fun e w'=>∃g cap,e= .returned (.tuple #[.slice (some ⟨g,0,none⟩) 1 cap,.bool true])∧Row w' w.heap.size g 1 cap ((h2f (byt msg) (byt tag) 2305843010818082053 1).map (Value.int .u64))∧Bl w w':=
    fun w=>h2fS_yes msg tag 2305843010818082053 1 w (by decide) ((okT_H (by decide) (by decide) (by decide)).1 h)
  have hz:=h2f_at msg tag 2305843010818082053 1 0 (by omega);generalize ((hNum msg tag 2305843010818082053 1 0:Nat):Int)=z at*;go_enter func54,ntmps54;go_wp2_with fail;refine(X _).mono ?_;rintro e W1 ⟨g,cap,rfl,hr,hb⟩;have hc:=hr.cell 0 (by omega);rw [hz] at hc;clear X hz;go_wp2;go_ret2;exact⟨rfl,hb⟩
def dkW:ByteArray:=⟨#[68,101,114,105,118,101,75,101,121,80,97,105,114]⟩
def dkM (seed info:ByteArray)(i:Nat):ByteArray:=seed++sizB info++strOfNums [(i:Int)]
def dkN (k:Nat)(seed info:ByteArray)(i:Nat):Nat:=hNum (dkM seed info i) (tagB dkW k) 2305843010818082053 1 0
def dkR (f:Nat→Nat):Nat→Nat→Nat×Int
  |_,0=>(0,3)
  |i,n+1=>if f i=0 then dkR f (i+1) n else (f i,0)
def dkB (mode:Int)(seed info:ByteArray):Bool:=decide ((0≤mode∧mode≤2)∧seed.size=32∧info.size≤60000)
def dkV (mode:Int)(seed info:ByteArray):Nat×Int:=if dkB mode seed info=true then dkR (dkN mode.toNat seed info) 0 256 else (0,1)
theorem dkT_size (k:Nat)(h:k<3):(tagB dkW k).size=25:=tagB_size _ k h
theorem sizB_sz (s:ByteArray):(sizB s).size=s.size+2:=by
  unfold sizB;rw [ByteArray.size_append,strOfNums_size];simp only [List.length_cons,List.length_nil];omega
theorem dkM_size (seed info:ByteArray)(i:Nat):(dkM seed info i).size=seed.size+info.size+3:=by
  unfold dkM;rw [ByteArray.size_append,ByteArray.size_append,sizB_sz,strOfNums_size];simp only [List.length_cons,List.length_nil];omega
theorem dkR_step {f:Nat→Nat}{j:Nat}(hj:j<256)(h:f j=0):dkR f j (256-j)=dkR f (j+1) (256-(j+1)):=by
  rw [show 256-j=(256-(j+1))+1 by omega];show(if f j=0 then _ else _)=_;rw [if_pos h]
theorem dkR_hit {f:Nat→Nat}{j:Nat}(hj:j<256)(h: ¬ f j=0):dkR f j (256-j)=(f j,0):=by
  rw [show 256-j=(256-(j+1))+1 by omega];show(if f j=0 then _ else _)=_;rw [if_neg h]
theorem dk_mod {mode:Int}(h1:0≤mode)(h2:mode≤2):mode.toNat<3∧((mode.toNat:Nat):Int)=mode:=by omega
end Go.Proofs.YtjhbckngdclleaaGreatDoor
