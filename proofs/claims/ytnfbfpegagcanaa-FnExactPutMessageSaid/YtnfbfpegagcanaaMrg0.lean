import Derived.Test.YtnfbfpegagcanaaProg
import Derived.Test.YtnfbfpegagcanaaChecked
import Derived.ProofKit
import Derived.WalkSpells
import Derived.WalkLawsBesides
set_option linter.unusedVariables false
set_option maxRecDepth 100000
set_option maxHeartbeats 16000000
namespace Go.Proofs.Ytnfbfpegagcanaa
open Go.RowKit
abbrev Bl (w w':World):Prop:=Below w.heap.size w w'
theorem _root_.Go.RowKit.Below.tr {a b c:World}(h:Below a.heap.size a b)(k:Below b.heap.size b c):Below a.heap.size a c:=h.trans (k.mono h.size)
abbrev Opr (dst:Option Tmp)(op:Op)(ty:TypeId)(ps:String)(af:Array Edge)(gd:Option (Nat×Bool)):Oper:={dst:=dst,op:=op,type:=ty,pos:=ps,after:=af,guard:=gd}
abbrev Cb (w:World)(f:FuncId)(a:Array Value)(v:Value):Prop:=∀w',Bl w w'→Calls Try.prog f a w' fun e w''=>e= .returned v∧Bl w' w''
abbrev Cc (f:FuncId)(a:Array Value)(v:Value):Prop:=∀w,Calls Try.prog f a w fun e w'=>e= .returned v∧Bl w w'
abbrev Cr (f:FuncId)(a:Array Value)(w:World)(v:Value):Prop:=Calls Try.prog f a w fun e w'=>e= .returned v∧Bl w w'
theorem balc (w:World)(o:Obj):Bl w (w.alloc o):=(Below.refl _ w).alloc (Nat.le_refl _) o
end Go.Proofs.Ytnfbfpegagcanaa
namespace Go.Proofs.Ytnfbfpegagcanaa
open Go.Proofs.Try Go.RowKit
open Go.Value (int)
open Go.IntKind (u64)
def rotr (x n:Int):Int:=bits BinOp.or IntKind.u32 (x/2^n.toNat) (x*2^(32-n).toNat%4294967296)
def lk (l:List Int)(i:Nat):Int:=l.getD i 0
def word (m:List Int)(p:Nat):Int:=bits BinOp.or IntKind.u32 (bits BinOp.or IntKind.u32 (bits BinOp.or IntKind.u32 (lk m p*16777216) (lk m (p+1)*65536)) (lk m (p+2)*256)) (lk m (p+3))
def sg0 (a:Int):Int:=bits BinOp.xor IntKind.u32 (bits BinOp.xor IntKind.u32 (rotr a 7) (rotr a 18)) (a/8)
def sg1 (a:Int):Int:=bits BinOp.xor IntKind.u32 (bits BinOp.xor IntKind.u32 (rotr a 17) (rotr a 19)) (a/1024)
def nextw (l:List Int)(k:Nat):Int:=(((lk l (k-16)+sg0 (lk l (k-15)))%4294967296+lk l (k-7))%4294967296+sg1 (lk l (k-2)))%4294967296
def wsTo (m:List Int)(p:Nat):Nat→List Int
  |0=> []
  |k+1=>wsTo m p k++ [if k<16 then word m (p+4*k) else nextw (wsTo m p k) k]
structure St where
  a:Int
  b:Int
  c:Int
  d:Int
  e:Int
  f:Int
  g:Int
  z:Int
def bg1 (e:Int):Int:=bits BinOp.xor IntKind.u32 (bits BinOp.xor IntKind.u32 (rotr e 6) (rotr e 11)) (rotr e 25)
def bg0 (a:Int):Int:=bits BinOp.xor IntKind.u32 (bits BinOp.xor IntKind.u32 (rotr a 2) (rotr a 13)) (rotr a 22)
def chF (e f g:Int):Int:=bits BinOp.xor IntKind.u32 (bits BinOp.and IntKind.u32 e f) (bits BinOp.and IntKind.u32 (bits BinOp.xor IntKind.u32 (if IntKind.u32.signed=true then-1 else IntKind.u32.max) e) g)
def majF (a b c:Int):Int:=bits BinOp.xor IntKind.u32 (bits BinOp.xor IntKind.u32 (bits BinOp.and IntKind.u32 a b) (bits BinOp.and IntKind.u32 a c)) (bits BinOp.and IntKind.u32 b c)
def tt1 (s:St)(k w:Int):Int:=(s.z+bg1 s.e+chF s.e s.f s.g+k+w)%4294967296
def tt2 (s:St):Int:=(bg0 s.a+majF s.a s.b s.c)%4294967296
def rnd (s:St)(k w:Int):St:=⟨(tt1 s k w+tt2 s)%4294967296,s.a,s.b,s.c,(s.d+tt1 s k w)%4294967296,s.e,s.f,s.g⟩
def rndTo (s:St)(ks ws:List Int):Nat→St
  |0=>s
  |i+1=>rnd (rndTo s ks ws i) (lk ks i) (lk ws i)
def stOf (l:List Int):St:=⟨lk l 0,lk l 1,lk l 2,lk l 3,lk l 4,lk l 5,lk l 6,lk l 7⟩
def blockF (ks:List Int)(h:List Int)(ws:List Int):List Int:=
  [(lk h 0+(rndTo (stOf h) ks ws 64).a)%4294967296,(lk h 1+(rndTo (stOf h) ks ws 64).b)%4294967296,(lk h 2+(rndTo (stOf h) ks ws 64).c)%4294967296,(lk h 3+(rndTo (stOf h) ks ws 64).d)%4294967296,
   (lk h 4+(rndTo (stOf h) ks ws 64).e)%4294967296,(lk h 5+(rndTo (stOf h) ks ws 64).f)%4294967296,(lk h 6+(rndTo (stOf h) ks ws 64).g)%4294967296,(lk h 7+(rndTo (stOf h) ks ws 64).z)%4294967296]
theorem ret_u64 {a b:Int}(h:a=b):Ending.returned (int u64 a)= .returned (int u64 b):=by rw [h]
def kTab:List Int:= [1116352408,1899447441,3049323471,3921009573,961987163,1508970993,2453635748,2870763221,3624381080,310598401,607225278,1426881987,1925078388,2162078206,2614888103,3248222580,3835390401,4022224774,264347078,604807628,770255983,1249150122,1555081692,1996064986,2554220882,2821834349,2952996808,3210313671,3336571891,3584528711,113926993,338241895,666307205,773529912,1294757372,1396182291,1695183700,1986661051,2177026350,2456956037,2730485921,2820302411,3259730800,3345764771,3516065817,3600352804,4094571909,275423344,430227734,506948616,659060556,883997877,958139571,1322822218,1537002063,1747873779,1955562222,2024104815,2227730452,2361852424,2428436474,2756734187,3204031479,3329325298]
def h0L:List Int:= [1779033703,3144134277,1013904242,2773480762,1359893119,2600822924,528734635,1541459225]
def byt (s:ByteArray):List Int:=s.data.toList.map (fun b=>(b.toNat:Int))
def be8 (n:Int):List Int:= [n/72057594037927936%256,n/281474976710656%256,n/1099511627776%256,n/4294967296%256,n/16777216%256,n/65536%256,n/256%256,n%256]
def beAt (n:Int)(j:Nat):Int:=n/2^(8*(7-j))%256
theorem be8_take (n:Int)(j:Nat)(h:j<8):(be8 n).take (j+1)=(be8 n).take j++ [beAt n j]:=by
  match j,h with
  |0,_=>rfl
  |1,_=>rfl
  |2,_=>rfl
  |3,_=>rfl
  |4,_=>rfl
  |5,_=>rfl
  |6,_=>rfl
  |7,_=>simp [be8,beAt]
def be4 (n:Int):List Int:= [n/16777216%256,n/65536%256,n/256%256,n%256]
theorem byt_length (s:ByteArray):(byt s).length=s.size:=by simp [byt]
def stateTo (m:List Int):Nat→List Int
  |0=>h0L
  |k+1=>blockF kTab (stateTo m k) (wsTo m (64*k) 64)
def digTo (h:List Int):Nat→List Int
  |0=> []
  |i+1=>digTo h i++be4 (lk h i)
theorem digTo_length (h:List Int):∀i,(digTo h i).length=4*i
  |0=>rfl
  |i+1=>by rw [digTo,List.length_append,digTo_length h i];simp [be4];omega
theorem byt_lt (s:ByteArray):∀x∈byt s,0≤x∧x<256:=by
  intro x hx;simp only [byt,List.mem_map] at hx;obtain⟨b,_,rfl⟩:=hx;have:=b.toNat_lt;omega
theorem be8_lt (n:Int):∀x∈be8 n,0≤x∧x<256:=by
  intro x hx;simp only [be8,List.mem_cons,List.not_mem_nil,or_false] at hx;rcases hx with rfl|rfl|rfl|rfl|rfl|rfl|rfl|rfl<;>omega
def beTo (n:Int):Nat→List Int
  |0=> []
  |j+1=>n/256^j%256::beTo n j
theorem set_mid (k j:Nat)(h:j<k)(l:List Int)(x:Int):(List.replicate (k-j) (0:Int)++l).set (k-1-j) x=List.replicate (k-(j+1)) 0++x::l:=by
  obtain⟨q,rfl⟩:∃q,k=q+1+j:=⟨k-1-j,by omega⟩;rw [show q+1+j-j=q+1 by omega,show q+1+j-1-j=q by omega,show q+1+j-(j+1)=q by omega,List.replicate_succ',List.append_assoc,List.set_append_right _ _ (by simp)];simp
theorem beTo_length (n:Int):∀j,(beTo n j).length=j
  |0=>rfl
  |j+1=>by rw [beTo,List.length_cons,beTo_length n j]
theorem beTo8 (n:Int):beTo n 8=be8 n:=by simp [beTo,be8]
theorem or_add (k:Nat)(a b:Int)(ha:0≤a)(ha1:a<4294967296)(hb:0≤b)(hb1:b<4294967296)(hk:a%2^k=0)(hbk:b<2^k):bits BinOp.or IntKind.u32 a b=a+b:=by
  rw [u32_or a b ha ha1 hb hb1,nat_join k a.toNat b.toNat]
  · omega
  · have:((a.toNat%2^k:Nat):Int)=0:=by
      rw [Int.natCast_emod,Int.toNat_of_nonneg ha];simpa using hk
    omega
  · have:((b.toNat:Nat):Int)<((2^k:Nat):Int):=by rw [Int.toNat_of_nonneg hb];simpa using hbk
    omega
theorem byt_str (l:List Int)(h:∀x∈l,0≤x∧x<256):byt (strOfNums l)=l:=by
  rw [byt,strOfNums_data,List.map_map]
  conv=>rhs;rw [←List.map_id l]
  refine List.map_congr_left (fun x hx=> ?_);have:=h x hx;simp only [Function.comp,id,UInt8.toNat_ofNat'];omega
end Go.Proofs.Ytnfbfpegagcanaa
