import Derived.Test.YtnfbfpegagcanaaMrg0
import Derived.Lib.BitFns
import Derived.Lib.Mul64
import Derived.Deep.AppendLies
import Derived.Deep.MidRow
set_option linter.unusedVariables false
set_option maxRecDepth 100000
set_option maxHeartbeats 16000000
namespace Go.Proofs.Ytnfbfpegagcanaa
open Go.Proofs.Try Go.RowKit
open Go.Value (int)
open Go.IntKind (u64)
def numL (l:List Int):Nat:=l.foldl (fun r x=>r*256+x.toNat) 0
theorem numL_snoc (l:List Int)(x:Int):numL (l++ [x])=numL l*256+x.toNat:=by simp [numL]
theorem byt_take (s:ByteArray)(k:Nat)(h:k<s.size):(byt s).take (k+1)=(byt s).take k++ [(s[k].toNat:Int)]:=by
  rw [List.take_succ_eq_append_getElem (by rw [byt_length];exact h)];simp [byt];rfl
theorem numL_take (s:ByteArray)(k:Nat)(h:k<s.size):numL ((byt s).take (k+1))=numL ((byt s).take k)*256+s[k].toNat:=by
  rw [byt_take s k h,numL_snoc];simp
namespace Dv
theorem or_add (h t s:Nat)(ht:t<2^s):h*2^s|||t=h*2^s+t:=by
  rw [Nat.mul_comm,Nat.two_pow_add_eq_or_of_lt ht]
end Dv
theorem orN (a b:Nat)(ha:a<18446744073709551616)(hb:b<18446744073709551616):bits .or .u64 (a:Int) (b:Int)=((a|||b:Nat):Int):=bits_or_u64_nat a b ha hb
theorem numL_lt (l:List Int)(h:∀x∈l,0≤x∧x<256):numL l<256^l.length:=by
  suffices∀(l:List Int) (a n:Nat),(∀x∈l,0≤x∧x<256)→a<256^n→l.foldl (fun r x=>r*256+x.toNat) a<256^(n+l.length) by
    have:=this l 0 0 h (by decide);rwa [Nat.zero_add] at this
  intro l
  induction l with
  |nil=>intro a n _ h;simpa using h
  | cons x l ih=>
    intro a n hx ha
    have:=ih (a*256+x.toNat) (n+1) (fun y hy=>hx y (List.mem_cons_of_mem _ hy)) (by
      have:=hx x List.mem_cons_self
      rw [Nat.pow_succ];omega)
    rw [List.foldl_cons,List.length_cons,show n+(l.length+1)=n+1+l.length by omega];exact this
theorem numL_take_lt (s:ByteArray)(k:Nat)(hk:k<8):numL ((byt s).take k)<72057594037927936:=by
  have h1:=numL_lt ((byt s).take k) (fun x hx=>byt_lt s x (List.mem_of_mem_take hx));have h2:(256:Nat)^((byt s).take k).length≤256^7:=Nat.pow_le_pow_right (by decide) (by rw [List.length_take];omega);have:(256:Nat)^7=72057594037927936:=by decide
  omega
theorem numL_8 (s:ByteArray)(h:s.size=8):numL (byt s)<18446744073709551616:=by
  have h1:=numL_lt (byt s) (byt_lt s);rw [byt_length,h] at h1;have:(256:Nat)^8=18446744073709551616:=by decide
  omega
theorem or_byte (z:Nat)(v:UInt8):bits .or .u64 (IntKind.u64.wrap ((z:Int)*256)) ((v.toNat:Nat):Int)=((z*256%18446744073709551616+v.toNat:Nat):Int):=by
  have hv:=v.toNat_lt;have e:IntKind.u64.wrap ((z:Int)*256)=((z*256%18446744073709551616:Nat):Int):=by rw [IntKind.wrap_u64];omega
  rw [e,orN _ _ (Nat.mod_lt _ (by decide)) (by omega)];have e2:z*256%18446744073709551616=z%72057594037927936*2^8:=by omega
  rw [e2,Dv.or_add _ _ 8 (by omega)]
section
open Go
end
end Go.Proofs.Ytnfbfpegagcanaa
