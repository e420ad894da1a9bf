import Derived.Test.YtjhbckngdclleaaGreatDoorProg
import Derived.WalkKit
import Derived.Deep.AppendLies
import Derived.Deep.MidRow
import Derived.Deep.Upon
import Derived.Lib.ConvBytes
set_option linter.unusedVariables false
set_option maxRecDepth 100000
set_option maxHeartbeats 16000000
namespace Go.Proofs.YtjhbckngdclleaaGreatDoor
open Go.RowKit
abbrev Bl (w w':World):Prop:=Below w.heap.size w w'
theorem _root_.Go.RowKit.Below.tr {a b c:World}(h:Below a.heap.size a b)(k:Below b.heap.size b c):Below a.heap.size a c:=h.trans (k.mono h.size)
abbrev Opr (dst:Option Tmp)(op:Op)(ty:TypeId)(ps:String)(af:Array Edge)(gd:Option (Nat×Bool)):Oper:={dst:=dst,op:=op,type:=ty,pos:=ps,after:=af,guard:=gd}
abbrev Cb (w:World)(f:FuncId)(a:Array Value)(v:Value):Prop:=∀w',Bl w w'→Calls Tryz.prog f a w' fun e w''=>e= .returned v∧Bl w' w''
abbrev Cc (f:FuncId)(a:Array Value)(v:Value):Prop:=∀w,Calls Tryz.prog f a w fun e w'=>e= .returned v∧Bl w w'
abbrev Cr (f:FuncId)(a:Array Value)(w:World)(v:Value):Prop:=Calls Tryz.prog f a w fun e w'=>e= .returned v∧Bl w w'
theorem balc (w:World)(o:Obj):Bl w (w.alloc o):=(Below.refl _ w).alloc (Nat.le_refl _) o
end Go.Proofs.YtjhbckngdclleaaGreatDoor
namespace Go.Proofs.YtjhbckngdclleaaGreatDoor
open Go.Proofs.Tryz Go.RowKit
open Go.Value (int)
open Go.IntKind (u64)
def rotr (x n:Int):Int:=bits BinOp.or IntKind.u32 (x/2^n.toNat) (x*2^(32-n).toNat%4294967296)
def lk (l:List Int)(i:Nat):Int:=l.getD i 0
theorem mask31 (k:Int)(h0: -32<k)(h1:k<0):bits BinOp.and IntKind.u64 (IntKind.u64.wrap k) 31=32+k:=by
  have e:IntKind.u64.wrap k=k+18446744073709551616:=by rw [IntKind.wrap_u64];omega
  rw [e,u64_and _ _ (by omega) (by omega) (by omega) (by omega)];have:(31:Int).toNat=31:=rfl;rw [this,nat_mask5];omega
theorem or_comm32 (a b:Int):bits BinOp.or IntKind.u32 a b=bits BinOp.or IntKind.u32 b a:=by
  show IntKind.u32.wrap ((BitVec.ofInt 32 a|||BitVec.ofInt 32 b).toNat:Int)=IntKind.u32.wrap ((BitVec.ofInt 32 b|||BitVec.ofInt 32 a).toNat:Int);rw [BitVec.or_comm]
theorem bits_lo (op:BinOp)(a b:Int):0≤bits op IntKind.u32 a b∧bits op IntKind.u32 a b<4294967296:=by
  cases op<;>simp only [bits,IntKind.wrap_u32']<;>omega
theorem u32_in (a:Int)(h0:0≤a)(h1:a<4294967296):IntKind.u32.wrap a=a:=by rw [IntKind.wrap_u32'];omega
theorem i64_in (a:Int)(h0: -9223372036854775808≤a)(h1:a<9223372036854775808):IntKind.i64.wrap a=a:=by
  simp [IntKind.wrap,IntKind.bits,IntKind.signed];split<;>omega
def word (m:List Int)(p:Nat):Int:=bits BinOp.or IntKind.u32 (bits BinOp.or IntKind.u32 (bits BinOp.or IntKind.u32 (lk m p*16777216) (lk m (p+1)*65536)) (lk m (p+2)*256)) (lk m (p+3))
def sg0 (a:Int):Int:=bits BinOp.xor IntKind.u32 (bits BinOp.xor IntKind.u32 (rotr a 7) (rotr a 18)) (a/8)
def sg1 (a:Int):Int:=bits BinOp.xor IntKind.u32 (bits BinOp.xor IntKind.u32 (rotr a 17) (rotr a 19)) (a/1024)
def nextw (l:List Int)(k:Nat):Int:=(((lk l (k-16)+sg0 (lk l (k-15)))%4294967296+lk l (k-7))%4294967296+sg1 (lk l (k-2)))%4294967296
def wsTo (m:List Int)(p:Nat):Nat→List Int
  |0=> []
  |k+1=>wsTo m p k++ [if k<16 then word m (p+4*k) else nextw (wsTo m p k) k]
theorem wsTo_lo (m:List Int)(p k:Nat)(h:k<16):(wsTo m p (k+1)).map (Value.int .u32)=(wsTo m p k).map (Value.int .u32)++ [.int .u32 (word m (p+4*k))]:=by
  rw [wsTo,if_pos h,List.map_append];rfl
theorem wsTo_hi (m:List Int)(p k:Nat)(h:16≤k):(wsTo m p (k+1)).map (Value.int .u32)=(wsTo m p k).map (Value.int .u32)++ [.int .u32 (nextw (wsTo m p k) k)]:=by
  rw [wsTo,if_neg (by omega),List.map_append];rfl
theorem wsTo_length (m:List Int)(p:Nat):∀k,(wsTo m p k).length=k
  |0=>rfl
  |k+1=>by rw [wsTo,List.length_append,wsTo_length m p k];rfl
theorem lk_append_lt (l r:List Int)(i:Nat)(h:i<l.length):lk (l++r) i=lk l i:=by
  unfold lk;rw [List.getD_eq_getElem?_getD,List.getD_eq_getElem?_getD,List.getElem?_append_left h]
theorem lk_append_at (l:List Int)(x:Int):lk (l++ [x]) l.length=x:=by
  unfold lk;simp
theorem wsTo_lo32 (m:List Int)(p:Nat):∀k j,0≤lk (wsTo m p k) j∧lk (wsTo m p k) j<4294967296
  |0,j=>by simp [wsTo,lk]
  | k + 1,j=>by
    rw [wsTo];by_cases h:j<(wsTo m p k).length
    · rw [lk_append_lt _ _ _ h];exact wsTo_lo32 m p k j
    · by_cases e:j=(wsTo m p k).length
      · subst e;rw [lk_append_at];split
        · exact bits_lo _ _ _
        · unfold nextw;omega
      · have:lk (wsTo m p k++ [if k<16 then word m (p+4*k) else nextw (wsTo m p k) k]) j=0:=by
          unfold lk;rw [List.getD_eq_getElem?_getD,List.getElem?_eq_none (by simp;omega)];rfl
        rw [this];omega
structure St where
  a:Int
  b:Int
  c:Int
  d:Int
  e:Int
  f:Int
  g:Int
  z:Int
def bg1 (e:Int):Int:=bits BinOp.xor IntKind.u32 (bits BinOp.xor IntKind.u32 (rotr e 6) (rotr e 11)) (rotr e 25)
def bg0 (a:Int):Int:=bits BinOp.xor IntKind.u32 (bits BinOp.xor IntKind.u32 (rotr a 2) (rotr a 13)) (rotr a 22)
def chF (e f g:Int):Int:=bits BinOp.xor IntKind.u32 (bits BinOp.and IntKind.u32 e f) (bits BinOp.and IntKind.u32 (bits BinOp.xor IntKind.u32 (if IntKind.u32.signed=true then-1 else IntKind.u32.max) e) g)
def majF (a b c:Int):Int:=bits BinOp.xor IntKind.u32 (bits BinOp.xor IntKind.u32 (bits BinOp.and IntKind.u32 a b) (bits BinOp.and IntKind.u32 a c)) (bits BinOp.and IntKind.u32 b c)
def tt1 (s:St)(k w:Int):Int:=(s.z+bg1 s.e+chF s.e s.f s.g+k+w)%4294967296
def tt2 (s:St):Int:=(bg0 s.a+majF s.a s.b s.c)%4294967296
def rnd (s:St)(k w:Int):St:=⟨(tt1 s k w+tt2 s)%4294967296,s.a,s.b,s.c,(s.d+tt1 s k w)%4294967296,s.e,s.f,s.g⟩
def rndTo (s:St)(ks ws:List Int):Nat→St
  |0=>s
  |i+1=>rnd (rndTo s ks ws i) (lk ks i) (lk ws i)
def w32 (x:Int):Prop:=0≤x∧x<4294967296
def St.ok (s:St):Prop:=w32 s.a∧w32 s.b∧w32 s.c∧w32 s.d∧w32 s.e∧w32 s.f∧w32 s.g∧w32 s.z
theorem rnd_ok (s:St)(k w:Int)(h:s.ok):(rnd s k w).ok:=by
  obtain⟨h1,h2,h3,h4,h5,h6,h7,h8⟩:=h;refine⟨?_,h1,h2,h3,?_,h5,h6,h7⟩<;>(unfold rnd w32;dsimp only;omega)
theorem rndTo_ok (s:St)(ks ws:List Int)(h:s.ok):∀i,(rndTo s ks ws i).ok
  |0=>h
  |i+1=>rnd_ok _ _ _ (rndTo_ok s ks ws h i)
def stOf (l:List Int):St:=⟨lk l 0,lk l 1,lk l 2,lk l 3,lk l 4,lk l 5,lk l 6,lk l 7⟩
def blockF (ks:List Int)(h:List Int)(ws:List Int):List Int:=
  [(lk h 0+(rndTo (stOf h) ks ws 64).a)%4294967296,(lk h 1+(rndTo (stOf h) ks ws 64).b)%4294967296,(lk h 2+(rndTo (stOf h) ks ws 64).c)%4294967296,(lk h 3+(rndTo (stOf h) ks ws 64).d)%4294967296,
   (lk h 4+(rndTo (stOf h) ks ws 64).e)%4294967296,(lk h 5+(rndTo (stOf h) ks ws 64).f)%4294967296,(lk h 6+(rndTo (stOf h) ks ws 64).g)%4294967296,(lk h 7+(rndTo (stOf h) ks ws 64).z)%4294967296]
section
open Go
theorem run_append_keeps {P:Program}(w:World)(t ty:TypeId)(base:Nat)(e:TypeId)(i:TypeInfo)(z:Value)(bytes:Nat)(ht:P.underlying t=some (.slice e))(hi:P.info? e=some i)(hz:i.zero=some z)
    (hsize:i.size=1)(hby:i.bytes=bytes)(hzs:z.cells.size=1)
    (g0 n cap0:Nat)(xs:List Value)(hown:w.ownsRow base e 1 (.slice (some ⟨g0,0,none⟩) n cap0) n xs)
    (ad:Addr)(m c:Nat)(news:List Value)(hl:news.length=m*1)(hnews:∀j u,news[j]? =some u→w.cell? (ad.add j)=some u)(h1:∀u∈news,u.oneCell'=true)
    (hm:0<m)(h63:n+m≤maxLen)(hbytes:(n+m)*bytes≤140737488355328)(hbase:base≤w.heap.size)(H:Nat)(hH:w.heap.size=H):
    ∃ g cap w',(Builtin.append_ #[t,t] ty #[.slice (some ⟨g0,0,none⟩) n cap0,.slice (some ad) m c]).run P w= .ok (.slice (some ⟨g,0,none⟩) (n+m) cap) w'∧
      w'.ownsRow base e 1 (.slice (some ⟨g,0,none⟩) (n+m) cap) (n+m) (xs++news)∧w.grownBy w' (some g0)∧(g0=g∨g=H)∧g<w'.heap.size∧
      (∀j u,xs[j]? =some u→w'.cell? ⟨g0,j,none⟩=some u):=by
  obtain⟨g,cap,w',hr,h2,h3,h4,h5⟩:=run_append_lies (P:=P) w t ty base e i z 1 bytes ht hi hz hsize hby hzs (by omega) (.slice (some ⟨g0,0,none⟩) n cap0) n xs hown ad m c news hl hnews h1 hm h63 hbytes hbase H hH;refine⟨g,cap,w',hr,h2,h3,?_,h5,?_⟩
  · rcases h4 with h4|h4
    · left;simpa [Value.ownBlock] using h4
    · right;exact h4
  · intro j u hu;rcases hown.2 with ⟨h0,_⟩|⟨g',cap',cur,hv,hbg,hg,hnc,hcm,hcs,htake⟩
    · cases h0
    · obtain⟨rfl,rfl⟩:g0=g'∧cap0=cap':=by simpa using hv
      by_cases hroom:n+m≤cap0
      · have hfit:n*i.size+news.length≤cur.size:=by rw [hsize,hl,hcs];omega
        have hr2:=run_append_room (P:=P) w t ty e i ht hi g0 n cap0 cur hg ad m c news (by rw [hsize];exact hl) hnews h1 hroom hfit;rw [hr2] at hr;simp only [Result.ok.injEq,Value.slice.injEq,Option.some.injEq,Addr.mk.injEq,and_true,true_and] at hr;obtain⟨⟨hgg,_⟩,_⟩:=hr;have hc:=h2.cells (g:=g) rfl j u (by rw [List.getElem?_append_left (by have:=(List.getElem?_eq_some_iff.1 hu).1;exact this)];exact hu);rw [Addr.add_mid,Nat.zero_add,←hgg] at hc;exact hc
      · have hr2:=run_append_grow (P:=P) w t ty e i z ht hi hz ⟨g0,0,none⟩ n cap0 xs (by rw [hsize];exact hown.1) (hown.cells (g:=g0) rfl) ad m c news (by rw [hsize];exact hl) hnews (by omega) (by simp only [maxLen] at h63;omega) (growslice_fits (by omega) (by rw [hby];exact hbytes));rw [hr2] at hr;simp only [Result.ok.injEq] at hr;obtain⟨_,rfl⟩:=hr;have hc:=hown.cells (g:=g0) rfl j u hu;rw [Addr.add_mid,Nat.zero_add] at hc;have hlt:g0<w.heap.size:=(Array.getElem?_eq_some_iff.1 hg).1;rw [World.cell?_of_block (w:=w) (heap_alloc_old w.drew _ hlt)];exact hc
theorem step_append_keeps {P:Program}{w:World}{ops:Array Oper}{o:Oper}{a:Act}{K:Act→World→Prop}{Q:Exit→Act→World→Prop}{E:Prop}(hgd:o.guard=none)(s x:Operand)(t:TypeId)
    (ho:o.op= .call {callee:= .builtin .append,args:=#[s,x],argTypes:=#[t,t]})
    (base:Nat)(e:TypeId)(i:TypeInfo)(z:Value)(bytes:Nat)(ht:P.underlying t=some (.slice e))(hi:P.info? e=some i)(hz:i.zero=some z)
    (hsize:i.size=1)(hby:i.bytes=bytes)(hzs:z.cells.size=1)
    (g0 n cap0:Nat)(xs:List Value)(hs:a.eval s= .slice (some ⟨g0,0,none⟩) n cap0)(hown:w.ownsRow base e 1 (.slice (some ⟨g0,0,none⟩) n cap0) n xs)
    (ad:Addr)(m c:Nat)(news:List Value)(hx:a.eval x= .slice (some ad) m c)(hl:news.length=m*1)(hnews:∀j u,news[j]? =some u→w.cell? (ad.add j)=some u)(h1:∀u∈news,u.oneCell'=true)
    (hm:0<m)(h63:n+m≤maxLen)(hbytes:(n+m)*bytes≤140737488355328)(hbase:base≤w.heap.size)(H:Nat)(hH:w.heap.size=H)
    (h:∀g cap w',w'.ownsRow base e 1 (.slice (some ⟨g,0,none⟩) (n+m) cap) (n+m) (xs++news)→w.grownBy w' (some g0)→(g0=g∨g=H)→g<w'.heap.size→
      (∀j u,xs[j]? =some u→w'.cell? ⟨g0,j,none⟩=some u)→K (a.put o.dst (.slice (some ⟨g,0,none⟩) (n+m) cap)) w'):
    if Region.wanted o (yielded ops a.tmps)=true then Oper.wp P o a w K Q else E:=by
  have hw:Region.wanted o (yielded ops a.tmps)=true:=by simp [Region.wanted,hgd]
  rw [if_pos hw];obtain⟨g,cap,w',hr,h2,h3,h4,h5,h6⟩:=run_append_keeps (P:=P) w t o.type base e i z bytes ht hi hz hsize hby hzs g0 n cap0 xs hown ad m c news hl hnews h1 hm h63 hbytes hbase H hH;unfold Oper.wp execOp;simp only [ho,resolve,invoke,builtin,Sem.run_bind,Sem.run_pure,Result.andThen_ok,List.map_toArray,List.map_cons,List.map_nil,hs,hx,hr];exact h g cap w' h2 h3 h4 h5 h6
theorem own_cell {w:World}{base:Nat}{e:TypeId}{k:IntKind}{g n cap:Nat}{xs:List Int}(h:w.ownsRow base e 1 (.slice (some ⟨g,0,none⟩) n cap) n (xs.map (Value.int k)))(j:Nat)(hj:j<n):
    w.cell? ⟨g,j,none⟩=some (.int k (lk xs j)):=by
  unfold lk;have hl:=h.1;simp only [List.length_map,Nat.mul_one] at hl;rw [h.cellAt j (by omega),List.getElem?_map,List.getElem?_eq_getElem (by omega),List.getD_eq_getElem?_getD,List.getElem?_eq_getElem (by omega)];rfl
theorem own_get {w:World}{base:Nat}{e:TypeId}{k:IntKind}{v:Value}{n:Nat}{xs:List Int}(h:w.ownsRow base e 1 v n (xs.map (Value.int k)))(j:Nat)(hj:j<n):
    (xs.map (Value.int k))[j]? =some (.int k (lk xs j)):=by
  have hl:=h.1;simp only [List.length_map,Nat.mul_one] at hl;unfold lk;rw [List.getElem?_map,List.getElem?_eq_getElem (by omega),List.getD_eq_getElem?_getD,List.getElem?_eq_getElem (by omega)];rfl
structure Row (w:World)(base g n cap:Nat)(xs:List Value):Prop where
  lo:base≤g
  hi:g<w.heap.size
  len:xs.length=n
  le:n≤cap
  max:cap≤maxLen
  cells:∀j u,xs[j]? =some u→w.cell? ⟨g,j,none⟩=some u
  room:∀j,j<cap→(w.cell? ⟨g,j,none⟩).isSome=true∧w.frozen? ⟨g,j,none⟩=false
theorem Row.same {w w':World}{base g n cap:Nat}{xs:List Value}(h:Row w base g n cap xs)(hb:w'.heap[g]? =w.heap[g]?)(hs:w.heap.size≤w'.heap.size):Row w' base g n cap xs:=
  ⟨h.lo,Nat.lt_of_lt_of_le h.hi hs,h.len,h.le,h.max,fun j u hu=>(World.cell?_of_block (w:=w) (a:=⟨g,j,none⟩) hb).trans (h.cells j u hu),
    fun j hj=>⟨by rw [World.cell?_of_block (w:=w) (a:=⟨g,j,none⟩) hb];exact(h.room j hj).1,by rw [World.frozen?_of_block (w:=w) (a:=⟨g,j,none⟩) hb];exact(h.room j hj).2⟩⟩
theorem Row.alloc {w:World}{base g n cap:Nat}{xs:List Value}(h:Row w base g n cap xs)(o:Obj):Row (w.alloc o) base g n cap xs:=
  h.same (Below.heap_alloc w o g h.hi) (by simp)
theorem Row.drew {w:World}{base g n cap:Nat}{xs:List Value}(h:Row w base g n cap xs):Row w.drew base g n cap xs:=h.same rfl (Nat.le_refl _)
theorem Row.below {w w':World}{base g n cap:Nat}{xs:List Value}(h:Row w base g n cap xs){B:Nat}(hb:Below B w w')(hg:g<B):Row w' base g n cap xs:=h.same (hb.block g hg) hb.size
theorem Row.of_block {w:World}{base g:Nat}{cs:Array Value}{t:TypeId}{n:Nat}(hg:w.heap[g]? =some (.cells cs t (0,0)))(hb:base≤g)(hn:n≤cs.size)(hm:cs.size≤maxLen):Row w base g n cs.size (cs.toList.take n):=by
  refine⟨hb,(Array.getElem?_eq_some_iff.1 hg).1,by simp;omega,hn,hm,fun j u hu=> ?_,fun j hj=>⟨?_,frozen_of_row w g j cs t hg⟩⟩
  · rw [cell_of_row w g j cs t (0,0) hg];rw [List.getElem?_take] at hu;split at hu
    · simpa using hu
    · cases hu
  · rw [cell_of_row w g j cs t (0,0) hg,Array.getElem?_eq_getElem hj];rfl
theorem Row.of_owns {w:World}{base:Nat}{e:TypeId}{g n cap:Nat}{xs:List Value}(h:w.ownsRow base e 1 (.slice (some ⟨g,0,none⟩) n cap) n xs):Row w base g n cap xs:=by
  rcases h.2 with ⟨h0,_⟩|⟨g',cap',cur,hv,hbg,hg,hnc,hcm,hcs,htake⟩
  · cases h0
  · obtain⟨rfl,rfl⟩:g=g'∧cap=cap':=by simpa using hv
    have:=Row.of_block (n:=n) hg hbg (by omega) (by omega);rw [Nat.mul_one] at hcs htake;rwa [htake,hcs] at this
theorem Row.cell {w:World}{base g n cap:Nat}{k:IntKind}{xs:List Int}(h:Row w base g n cap (xs.map (Value.int k)))(j:Nat)(hj:j<n):w.cell? ⟨g,j,none⟩=some (.int k (lk xs j)):=by
  have hl:=h.len;rw [List.length_map] at hl;refine h.cells j _ ?_;unfold lk;rw [List.getElem?_map,List.getElem?_eq_getElem (by omega),List.getD_eq_getElem?_getD,List.getElem?_eq_getElem (by omega)];rfl
theorem Row.set {w:World}{base g n cap:Nat}{xs:List Value}(h:Row w base g n cap xs)(i:Nat)(hi:i<n)(v:Value):Row (w.setCell ⟨g,i,none⟩ v) base g n cap (xs.set i v):=by
  have hl:=h.len;have hn:=h.le;obtain⟨u0,hu0⟩:=Option.isSome_iff_exists.1 (h.room i (by omega)).1;have hsame:(w.setCell ⟨g,i,none⟩ v).cell? ⟨g,i,none⟩=some v:=World.cell?_setCell_same _ _ _ hu0;refine⟨h.lo,by simpa using h.hi,by simpa using hl,hn,h.max,fun j u hu=> ?_,fun j hj=>⟨?_,?_⟩⟩
  · by_cases e:i=j
    · subst e;rw [List.getElem?_set_self (by omega)] at hu;rw [hsame,←hu]
    · rw [List.getElem?_set_ne e] at hu;rw [World.cell?_setCell_other _ _ _ _ (fun he=>e (congrArg Addr.off he))];exact h.cells j u hu
  · by_cases e:i=j
    · subst e;rw [hsame];rfl
    · rw [World.cell?_setCell_other _ _ _ _ (fun he=>e (congrArg Addr.off he))];exact(h.room j hj).1
  · rw [World.frozen?_setCell];exact(h.room j hj).2
theorem setCells_tape (b:Nat):∀(vs:List Value) (o:Nat) (w:World),(w.setCells b o vs).tape=w.tape
  | [],_,_=>rfl
  |v::r,o,w=>by rw [World.setCells,setCells_tape b r];rfl
theorem setCells_size (b:Nat):∀(vs:List Value) (o:Nat) (w:World),(w.setCells b o vs).heap.size=w.heap.size
  | [],_,_=>rfl
  |v::r,o,w=>by rw [World.setCells,setCells_size b r];simp
theorem setCells_grown (w:World)(b o:Nat)(vs:List Value):w.grownBy (w.setCells b o vs) (some b):=
  ⟨World.os_setCells w b o vs,setCells_tape b vs o w,World.output_setCells w b o vs,by rw [setCells_size];exact Nat.le_refl _,fun k hk hne=>World.heap_setCells_other w b o vs hk (fun e=>hne (by rw [e]))⟩
theorem run_append_row {P:Program}(w:World)(t ty:TypeId)(base:Nat)(e:TypeId)(i:TypeInfo)(z:Value)(bytes:Nat)(ht:P.underlying t=some (.slice e))(hi:P.info? e=some i)(hz:i.zero=some z)
    (hsize:i.size=1)(hby:i.bytes=bytes)(hzs:z.cells.size=1)
    (g n cap:Nat)(xs:List Value)(hown:Row w base g n cap xs)
    (ad:Addr)(m c:Nat)(news:List Value)(hl:news.length=m)(hnews:∀j u,news[j]? =some u→w.cell? (ad.add j)=some u)(h1:∀u∈news,u.oneCell'=true)
    (h63:n+m≤maxLen)(hbytes:(n+m)*bytes≤140737488355328)(hbase:base≤w.heap.size)(H:Nat)(hH:w.heap.size=H):
    ∃ g' cap' w',(Builtin.append_ #[t,t] ty #[.slice (some ⟨g,0,none⟩) n cap,.slice (some ad) m c]).run P w= .ok (.slice (some ⟨g',0,none⟩) (n+m) cap') w'∧
      Row w' base g' (n+m) cap' (xs++news)∧w.grownBy w' (some g)∧(g'=g∨g'=H)∧(∀j u,xs[j]? =some u→w'.cell? ⟨g,j,none⟩=some u):=by
  have hlx:=hown.len;by_cases hroom:n+m≤cap
  · have hr:=run_append_room_cells (P:=P) w t ty e i ht hi g 0 n cap ad m c news (by rw [hsize,hl];omega) hnews h1 hroom
      (fun j hj=>by rw [hsize];exact(hown.room _ (by omega)).1) (fun j hj=>by rw [hsize];exact(hown.room _ (by omega)).2)
    rw [hsize,Nat.zero_add,Nat.mul_one] at hr
    have hk:∀j u,xs[j]? =some u→(w.setCells g n news).cell? ⟨g,j,none⟩=some u:=fun j u hu=>by
      have hj:j<xs.length:=(List.getElem?_eq_some_iff.1 hu).1;rw [World.cell?_setCells_out g news n w ⟨g,j,none⟩ (fun _ _=> .inl (by show j<n;omega))];exact hown.cells j u hu
    refine⟨g,cap,_,hr,⟨hown.lo,by rw [setCells_size];exact hown.hi,by rw [List.length_append];omega,hroom,hown.max,fun j u hu=> ?_,fun j hj=> ?_⟩,setCells_grown w g n news,.inl rfl,hk⟩
    · by_cases hj:j<xs.length
      · rw [List.getElem?_append_left hj] at hu;exact hk j u hu
      · rw [List.getElem?_append_right (by omega)] at hu;have hj2:j-xs.length<news.length:=(List.getElem?_eq_some_iff.1 hu).1;have:=World.cell?_setCells_in g news n w (fun q hq=>(hown.room _ (by omega)).1) (j-xs.length) hj2;rw [show n+(j-xs.length)=j by omega] at this;rw [this,←hu,List.getElem?_eq_getElem hj2]
    · exact⟨World.isSome_setCells g news n w _ (hown.room j hj).1,by rw [World.frozen?_setCells];exact(hown.room j hj).2⟩
  · have holds:∀j u,xs[j]? =some u→w.cell? ((⟨g,0,none⟩:Addr).add j)=some u:=fun j u hu=>by rw [Addr.add_mid,Nat.zero_add];exact hown.cells j u hu
    have hr:=run_append_grow (P:=P) w t ty e i z ht hi hz ⟨g,0,none⟩ n cap xs (by rw [hsize];omega) holds ad m c news (by rw [hsize];omega) hnews (by omega) (by simp only [maxLen] at h63;omega) (growslice_fits (by omega) (by rw [hby];exact hbytes));have hge:=grownCap_ge w (n+m) cap e;have hcm:grownCap w (n+m) cap e≤maxLen:=grownCap_le_maxLen w (n+m) cap e h63
    have hsz:(xs.toArray++news.toArray++Builtin.zeroCells z.cells (grownCap w (n+m) cap e-(n+m))).size=grownCap w (n+m) cap e:=by
      simp only [Array.size_append,List.size_toArray,size_zeroCells,hzs];omega
    have hblk:=Row.of_block (w:=w.drew.alloc (.cells (xs.toArray++news.toArray++Builtin.zeroCells z.cells (grownCap w (n+m) cap e-(n+m))) e)) (base:=base) (g:=w.heap.size) (n:=n+m) (heap_alloc_new w.drew _) hbase (by rw [hsz];exact hge) (by rw [hsz];exact hcm);rw [hsz] at hblk
    have htk:(xs.toArray++news.toArray++Builtin.zeroCells z.cells (grownCap w (n+m) cap e-(n+m))).toList.take (n+m)=xs++news:=by
      simp only [Array.toList_append];rw [List.take_append_of_le_length (by simp;omega),List.take_of_length_le (by simp;omega)]
    rw [htk] at hblk;refine⟨w.heap.size,_,_,hr,hblk,⟨rfl,rfl,rfl,by simp,fun k hk _=>heap_alloc_old w.drew _ hk⟩,.inr hH,fun j u hu=> ?_⟩;rw [World.cell?_of_block (w:=w) (a:=⟨g,j,none⟩) (heap_alloc_old w.drew _ hown.hi)];exact hown.cells j u hu
section
variable {P:Program}{w:World}
theorem wp_append_row {o:Oper}{a:Act}{K:Act→World→Prop}{Q:Exit→Act→World→Prop}(s x:Operand)(t:TypeId)
    (ho:o.op= .call {callee:= .builtin .append,args:=#[s,x],argTypes:=#[t,t]})
    (base:Nat)(e:TypeId)(i:TypeInfo)(z:Value)(bytes:Nat)(ht:P.underlying t=some (.slice e))(hi:P.info? e=some i)(hz:i.zero=some z)
    (hsize:i.size=1)(hby:i.bytes=bytes)(hzs:z.cells.size=1)
    (g n cap:Nat)(xs:List Value)(hs:a.eval s= .slice (some ⟨g,0,none⟩) n cap)(hown:Row w base g n cap xs)
    (ad:Addr)(m c:Nat)(news:List Value)(hx:a.eval x= .slice (some ad) m c)(hl:news.length=m)(hnews:∀j u,news[j]? =some u→w.cell? (ad.add j)=some u)(h1:∀u∈news,u.oneCell'=true)
    (h63:n+m≤maxLen)(hbytes:(n+m)*bytes≤140737488355328)(hbase:base≤w.heap.size)(H:Nat)(hH:w.heap.size=H)
    (h:∀g' cap' w',Row w' base g' (n+m) cap' (xs++news)→w.grownBy w' (some g)→(g'=g∨g'=H)→(∀j u,xs[j]? =some u→w'.cell? ⟨g,j,none⟩=some u)→K (a.put o.dst (.slice (some ⟨g',0,none⟩) (n+m) cap')) w'):o.wp P a w K Q:=by
  obtain⟨g',cap',w',hr,h2,h3,h4,h5⟩:=run_append_row (P:=P) w t o.type base e i z bytes ht hi hz hsize hby hzs g n cap xs hown ad m c news hl hnews h1 h63 hbytes hbase H hH;unfold Oper.wp execOp;simp only [ho,resolve,invoke,builtin,Sem.run_bind,Sem.run_pure,Result.andThen_ok,List.map_toArray,List.map_cons,List.map_nil,hs,hx,hr];exact h g' cap' w' h2 h3 h4 h5
theorem wpList_append_row {ops:Array Oper}{rest:List Oper}{o:Oper}{a:Act}{Q:Exit→Act→World→Prop}(hgd:o.guard=none)(s x:Operand)(t:TypeId)
    (ho:o.op= .call {callee:= .builtin .append,args:=#[s,x],argTypes:=#[t,t]})
    (base:Nat)(e:TypeId)(i:TypeInfo)(z:Value)(bytes:Nat)(ht:P.underlying t=some (.slice e))(hi:P.info? e=some i)(hz:i.zero=some z)
    (hsize:i.size=1)(hby:i.bytes=bytes)(hzs:z.cells.size=1)
    (g n cap:Nat)(xs:List Value)(hs:a.eval s= .slice (some ⟨g,0,none⟩) n cap)(hown:Row w base g n cap xs)
    (ad:Addr)(m c:Nat)(news:List Value)(hx:a.eval x= .slice (some ad) m c)(hl:news.length=m)(hnews:∀j u,news[j]? =some u→w.cell? (ad.add j)=some u)(h1:∀u∈news,u.oneCell'=true)
    (h63:n+m≤maxLen)(hbytes:(n+m)*bytes≤140737488355328)(hbase:base≤w.heap.size)(H:Nat)(hH:w.heap.size=H)
    (h:∀g' cap' w',Row w' base g' (n+m) cap' (xs++news)→w.grownBy w' (some g)→(g'=g∨g'=H)→(∀j u,xs[j]? =some u→w'.cell? ⟨g,j,none⟩=some u)→wpList P ops Q rest (a.put o.dst (.slice (some ⟨g',0,none⟩) (n+m) cap')) w'):wpList P ops Q (o::rest) a w:=
  wpList_plain hgd fun _ hK=>wp_append_row s x t ho base e i z bytes ht hi hz hsize hby hzs g n cap xs hs hown ad m c news hx hl hnews h1 h63 hbytes hbase H hH fun g' cap' w' h2 h3 h4 h5=>hK _ _ (h g' cap' w' h2 h3 h4 h5)
theorem step_append_row {ops:Array Oper}{o:Oper}{a:Act}{K:Act→World→Prop}{Q:Exit→Act→World→Prop}{E:Prop}(hgd:o.guard=none)(s x:Operand)(t:TypeId)
    (ho:o.op= .call {callee:= .builtin .append,args:=#[s,x],argTypes:=#[t,t]})
    (base:Nat)(e:TypeId)(i:TypeInfo)(z:Value)(bytes:Nat)(ht:P.underlying t=some (.slice e))(hi:P.info? e=some i)(hz:i.zero=some z)
    (hsize:i.size=1)(hby:i.bytes=bytes)(hzs:z.cells.size=1)
    (g n cap:Nat)(xs:List Value)(hs:a.eval s= .slice (some ⟨g,0,none⟩) n cap)(hown:Row w base g n cap xs)
    (ad:Addr)(m c:Nat)(news:List Value)(hx:a.eval x= .slice (some ad) m c)(hl:news.length=m)(hnews:∀j u,news[j]? =some u→w.cell? (ad.add j)=some u)(h1:∀u∈news,u.oneCell'=true)
    (h63:n+m≤maxLen)(hbytes:(n+m)*bytes≤140737488355328)(hbase:base≤w.heap.size)(H:Nat)(hH:w.heap.size=H)
    (h:∀g' cap' w',Row w' base g' (n+m) cap' (xs++news)→w.grownBy w' (some g)→(g'=g∨g'=H)→(∀j u,xs[j]? =some u→w'.cell? ⟨g,j,none⟩=some u)→K (a.put o.dst (.slice (some ⟨g',0,none⟩) (n+m) cap')) w'):
    if Region.wanted o (yielded ops a.tmps)=true then Oper.wp P o a w K Q else E:=by
  have hw:Region.wanted o (yielded ops a.tmps)=true:=by simp [Region.wanted,hgd]
  rw [if_pos hw];exact wp_append_row s x t ho base e i z bytes ht hi hz hsize hby hzs g n cap xs hs hown ad m c news hx hl hnews h1 h63 hbytes hbase H hH h
end
theorem below_setCells {B:Nat}{a w:World}(h:Below B a w){g:Nat}(hg:B≤g)(o:Nat)(vs:List Value):Below B a (w.setCells g o vs):=
  h.trans ⟨World.os_setCells w g o vs,setCells_tape g vs o w,World.output_setCells w g o vs,by rw [setCells_size];exact Nat.le_refl _,fun k hk=>by
    rcases Nat.lt_or_ge k w.heap.size with hlt|hge
    · exact World.heap_setCells_other w g o vs hlt (by omega)
    · rw [Array.getElem?_eq_none hge,Array.getElem?_eq_none (by rw [setCells_size];exact hge)]⟩
theorem there_new (w:World)(cs:Array Value)(t:TypeId)(n:Nat)(hn:n≤cs.size):(w.alloc (.cells cs t)).there w.heap.size 0 n:=fun j hj=>by
  rw [Nat.zero_add];exact⟨by rw [cell_of_row _ _ _ _ _ _ (heap_alloc_new w _),Array.getElem?_eq_getElem (by omega)];rfl,frozen_of_row _ _ j _ _ (heap_alloc_new w _)⟩
theorem results_mid {P:Program}{fn:Func}{p:Tmp}{ty:TypeId}(h:fn.results=#[.cell p ty])(tmps:Array Value)(w:World)(g o:Nat)(cs:List Value)(d:TypeDesc)
    (hp:tmps.getD p undef= .pointer (some ⟨g,o,none⟩))(hc:w.rangeAt g o cs)
    (hu:P.underlying ty=some d)(hd:d.isRow=true)(hi:(P.info? ty).map (·.size)=some cs.length):
    (results fn tmps).run P w= .ok (.agg cs.toArray) w:=by
  have hp':tmps[p]?.getD undef= .pointer (some ⟨g,o,none⟩):=by simpa using hp
  simp [results,h,hp',asAddr,run_loadVar_mid w g o ty cs d hc hu hd hi]
theorem row_bytes (w:World)(e:TypeId)(s:ByteArray)(base:Nat)(hb:base≤w.heap.size)(hs:s.size≤maxLen):
    Row (Lib.bytesWorld w e s) base w.heap.size s.size (grownCap w s.size 0 e) ((s.data.toList.map (fun b=>(b.toNat:Int))).map (Value.int .u8))∧Bl w (Lib.bytesWorld w e s):=by
  have hge:=grownCap_ge w s.size 0 e;have hle:=grownCap_le_maxLen w s.size 0 e hs;have hsz:(Lib.bytesCells w e s).size=grownCap w s.size 0 e:=by simp [Lib.bytesCells];omega
  have hnew:=Lib.bytesWorld_at_new w e s;have hL:s.data.toList.length=s.size:=by simp
  refine⟨⟨hb,by rw [Lib.bytesWorld_size];omega,by simp,hge,hle,fun j u hu=> ?_,fun j hj=>⟨?_,?_⟩⟩,⟨rfl,rfl,rfl,by rw [Lib.bytesWorld_size];omega,fun k hk=>Lib.bytesWorld_at_old w e s k hk⟩⟩
  · have hj:j<s.size:=by have:=(List.getElem?_eq_some_iff.1 hu).1;simpa using this
    rw [Lib.bytesWorld_cell w e s j hj,←hu];simp [List.getD,hj]
  · rw [cell_of_row _ _ _ _ _ _ hnew,Array.getElem?_eq_getElem (by omega)];rfl
  · simp [World.frozen?,hnew];omega
def strV:Value→Nat
  | .string s=>s.size
  |_=>0
end
end Go.Proofs.YtjhbckngdclleaaGreatDoor
