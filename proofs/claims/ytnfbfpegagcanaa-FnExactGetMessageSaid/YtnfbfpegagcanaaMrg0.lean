import Derived.Test.YtnfbfpegagcanaaProg
import Derived.Test.YtnfbfpegagcanaaChecked
import Derived.ProofKit
import Derived.WalkSpells
import Derived.WalkLawsBesides
set_option linter.unusedVariables false
set_option maxRecDepth 100000
set_option maxHeartbeats 16000000
namespace Go.Proofs.Ytnfbfpegagcanaa
open Go.RowKit
abbrev Bl (w w':World):Prop:=Below w.heap.size w w'
theorem _root_.Go.RowKit.Below.tr {a b c:World}(h:Below a.heap.size a b)(k:Below b.heap.size b c):Below a.heap.size a c:=h.trans (k.mono h.size)
abbrev Opr (dst:Option Tmp)(op:Op)(ty:TypeId)(ps:String)(af:Array Edge)(gd:Option (Nat×Bool)):Oper:={dst:=dst,op:=op,type:=ty,pos:=ps,after:=af,guard:=gd}
abbrev Cb (w:World)(f:FuncId)(a:Array Value)(v:Value):Prop:=∀w',Bl w w'→Calls Try.prog f a w' fun e w''=>e= .returned v∧Bl w' w''
abbrev Cc (f:FuncId)(a:Array Value)(v:Value):Prop:=∀w,Calls Try.prog f a w fun e w'=>e= .returned v∧Bl w w'
abbrev Cr (f:FuncId)(a:Array Value)(w:World)(v:Value):Prop:=Calls Try.prog f a w fun e w'=>e= .returned v∧Bl w w'
theorem balc (w:World)(o:Obj):Bl w (w.alloc o):=(Below.refl _ w).alloc (Nat.le_refl _) o
end Go.Proofs.Ytnfbfpegagcanaa
namespace Go.Proofs.Ytnfbfpegagcanaa
open Go.Proofs.Try Go.RowKit
open Go.Value (int)
open Go.IntKind (u64)
def lk (l:List Int)(i:Nat):Int:=l.getD i 0
theorem ret_u64 {a b:Int}(h:a=b):Ending.returned (int u64 a)= .returned (int u64 b):=by rw [h]
def byt (s:ByteArray):List Int:=s.data.toList.map (fun b=>(b.toNat:Int))
def be8 (n:Int):List Int:= [n/72057594037927936%256,n/281474976710656%256,n/1099511627776%256,n/4294967296%256,n/16777216%256,n/65536%256,n/256%256,n%256]
def beAt (n:Int)(j:Nat):Int:=n/2^(8*(7-j))%256
theorem be8_take (n:Int)(j:Nat)(h:j<8):(be8 n).take (j+1)=(be8 n).take j++ [beAt n j]:=by
  match j,h with
  |0,_=>rfl
  |1,_=>rfl
  |2,_=>rfl
  |3,_=>rfl
  |4,_=>rfl
  |5,_=>rfl
  |6,_=>rfl
  |7,_=>simp [be8,beAt]
theorem byt_length (s:ByteArray):(byt s).length=s.size:=by simp [byt]
theorem byt_lt (s:ByteArray):∀x∈byt s,0≤x∧x<256:=by
  intro x hx;simp only [byt,List.mem_map] at hx;obtain⟨b,_,rfl⟩:=hx;have:=b.toNat_lt;omega
theorem be8_lt (n:Int):∀x∈be8 n,0≤x∧x<256:=by
  intro x hx;simp only [be8,List.mem_cons,List.not_mem_nil,or_false] at hx;rcases hx with rfl|rfl|rfl|rfl|rfl|rfl|rfl|rfl<;>omega
theorem or_add (k:Nat)(a b:Int)(ha:0≤a)(ha1:a<4294967296)(hb:0≤b)(hb1:b<4294967296)(hk:a%2^k=0)(hbk:b<2^k):bits BinOp.or IntKind.u32 a b=a+b:=by
  rw [u32_or a b ha ha1 hb hb1,nat_join k a.toNat b.toNat]
  · omega
  · have:((a.toNat%2^k:Nat):Int)=0:=by
      rw [Int.natCast_emod,Int.toNat_of_nonneg ha];simpa using hk
    omega
  · have:((b.toNat:Nat):Int)<((2^k:Nat):Int):=by rw [Int.toNat_of_nonneg hb];simpa using hbk
    omega
theorem byt_str (l:List Int)(h:∀x∈l,0≤x∧x<256):byt (strOfNums l)=l:=by
  rw [byt,strOfNums_data,List.map_map]
  conv=>rhs;rw [←List.map_id l]
  refine List.map_congr_left (fun x hx=> ?_);have:=h x hx;simp only [Function.comp,id,UInt8.toNat_ofNat'];omega
end Go.Proofs.Ytnfbfpegagcanaa
