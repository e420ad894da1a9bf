import Derived.Test.YtjhbckngdclleaaGreatDoorMrg0
import Derived.Test.YtjhbckngdclleaaGreatDoorChecked
import Derived.ProofKit
import Derived.WalkSpells
import Derived.WalkLawsBesides
import Derived.Deep.RegionHeld3
import Derived.BigQuiet
import Derived.Deep.DrawnRows
set_option linter.unusedVariables false
set_option maxRecDepth 100000
set_option maxHeartbeats 16000000
namespace Go.Proofs.YtjhbckngdclleaaGreatDoor
open Go.Proofs.Tryz Go.RowKit
open Go.Value (int)
open Go.IntKind (u64)
def kTab:List Int:= [1116352408,1899447441,3049323471,3921009573,961987163,1508970993,2453635748,2870763221,3624381080,310598401,607225278,1426881987,1925078388,2162078206,2614888103,3248222580,3835390401,4022224774,264347078,604807628,770255983,1249150122,1555081692,1996064986,2554220882,2821834349,2952996808,3210313671,3336571891,3584528711,113926993,338241895,666307205,773529912,1294757372,1396182291,1695183700,1986661051,2177026350,2456956037,2730485921,2820302411,3259730800,3345764771,3516065817,3600352804,4094571909,275423344,430227734,506948616,659060556,883997877,958139571,1322822218,1537002063,1747873779,1955562222,2024104815,2227730452,2361852424,2428436474,2756734187,3204031479,3329325298]
def h0L:List Int:= [1779033703,3144134277,1013904242,2773480762,1359893119,2600822924,528734635,1541459225]
def byt (s:ByteArray):List Int:=s.data.toList.map (fun b=>(b.toNat:Int))
def zeros (n:Nat):Nat:=(119-n%64)%64
def be8 (n:Int):List Int:= [n/72057594037927936%256,n/281474976710656%256,n/1099511627776%256,n/4294967296%256,n/16777216%256,n/65536%256,n/256%256,n%256]
def beAt (n:Int)(j:Nat):Int:=n/2^(8*(7-j))%256
theorem be8_take (n:Int)(j:Nat)(h:j<8):(be8 n).take (j+1)=(be8 n).take j++ [beAt n j]:=by
  match j,h with
  |0,_=>rfl
  |1,_=>rfl
  |2,_=>rfl
  |3,_=>rfl
  |4,_=>rfl
  |5,_=>rfl
  |6,_=>rfl
  |7,_=>simp [be8,beAt]
def be4 (n:Int):List Int:= [n/16777216%256,n/65536%256,n/256%256,n%256]
def padF (t:List Int):List Int:=t++ [128]++List.replicate (zeros t.length) 0++be8 (t.length*8)
theorem byt_length (s:ByteArray):(byt s).length=s.size:=by simp [byt]
theorem padF_byt (s:ByteArray):padF (byt s)=byt s++ [128]++List.replicate (zeros s.size) 0++be8 (s.size*8):=by
  unfold padF;rw [byt_length]
def stateTo (m:List Int):Nat→List Int
  |0=>h0L
  |k+1=>blockF kTab (stateTo m k) (wsTo m (64*k) 64)
theorem u8_in (a:Int)(h0:0≤a)(h1:a<256):IntKind.u8.wrap a=a:=by rw [IntKind.wrap_u8'];omega
def digTo (h:List Int):Nat→List Int
  |0=> []
  |i+1=>digTo h i++be4 (lk h i)
def digest (h:List Int):List Int:=digTo h 8
theorem digTo_length (h:List Int):∀i,(digTo h i).length=4*i
  |0=>rfl
  |i+1=>by rw [digTo,List.length_append,digTo_length h i];simp [be4];omega
theorem lk_block (ks h ws:List Int):stOf (blockF ks h ws)=⟨(lk h 0+(rndTo (stOf h) ks ws 64).a)%4294967296,(lk h 1+(rndTo (stOf h) ks ws 64).b)%4294967296,(lk h 2+(rndTo (stOf h) ks ws 64).c)%4294967296,(lk h 3+(rndTo (stOf h) ks ws 64).d)%4294967296,
   (lk h 4+(rndTo (stOf h) ks ws 64).e)%4294967296,(lk h 5+(rndTo (stOf h) ks ws 64).f)%4294967296,(lk h 6+(rndTo (stOf h) ks ws 64).g)%4294967296,(lk h 7+(rndTo (stOf h) ks ws 64).z)%4294967296⟩:=rfl
theorem w32_mod (x:Int):w32 (x%4294967296):=by unfold w32;omega
theorem stateTo_ok (m:List Int):∀k,(stOf (stateTo m k)).ok
  |0=>by rw [stateTo];refine⟨?_,?_,?_,?_,?_,?_,?_,?_⟩<;>(unfold w32;decide)
  | k+1=>by
    rw [stateTo,lk_block];exact⟨w32_mod _,w32_mod _,w32_mod _,w32_mod _,w32_mod _,w32_mod _,w32_mod _,w32_mod _⟩
theorem stateTo_length (m:List Int):∀k,(stateTo m k).length=8
  |0=>rfl
  |_+1=>rfl
theorem padF_length (t:List Int):(padF t).length=t.length+9+zeros t.length:=by
  simp [padF,be8];omega
theorem padF_mod (t:List Int):(padF t).length%64=0:=by
  rw [padF_length];unfold zeros;omega
theorem lk_lt {l:List Int}(h:∀x∈l,0≤x∧x<256)(i:Nat):0≤lk l i∧lk l i<256:=by
  unfold lk;rw [List.getD_eq_getElem?_getD]
  cases hi:l[i]? with
  |none=>simp
  |some x=>simpa using h x (List.mem_of_getElem? hi)
theorem byt_lt (s:ByteArray):∀x∈byt s,0≤x∧x<256:=by
  intro x hx;simp only [byt,List.mem_map] at hx;obtain⟨b,_,rfl⟩:=hx;have:=b.toNat_lt;omega
theorem be8_lt (n:Int):∀x∈be8 n,0≤x∧x<256:=by
  intro x hx;simp only [be8,List.mem_cons,List.not_mem_nil,or_false] at hx;rcases hx with rfl|rfl|rfl|rfl|rfl|rfl|rfl|rfl<;>omega
theorem padF_lt {t:List Int}(h:∀x∈t,0≤x∧x<256):∀x∈padF t,0≤x∧x<256:=by
  intro x hx;simp only [padF,List.mem_append,List.mem_singleton,List.mem_replicate] at hx;rcases hx with ((hx|rfl)|⟨_,rfl⟩)|hx
  · exact h x hx
  · omega
  · omega
  · exact be8_lt _ x hx
def shaF (t:List Int):List Int:=digest (stateTo (padF t) ((padF t).length/64))
def beTo (n:Int):Nat→List Int
  |0=> []
  |j+1=>n/256^j%256::beTo n j
theorem set_mid (k j:Nat)(h:j<k)(l:List Int)(x:Int):(List.replicate (k-j) (0:Int)++l).set (k-1-j) x=List.replicate (k-(j+1)) 0++x::l:=by
  obtain⟨q,rfl⟩:∃q,k=q+1+j:=⟨k-1-j,by omega⟩;rw [show q+1+j-j=q+1 by omega,show q+1+j-1-j=q by omega,show q+1+j-(j+1)=q by omega,List.replicate_succ',List.append_assoc,List.set_append_right _ _ (by simp)];simp
def rhL (st blk:List Int)(filled size:Int):List Value:=st.map (Value.int .u32)++blk.map (Value.int .u8)++ [.int .i64 filled,int u64 size]
theorem beTo_length (n:Int):∀j,(beTo n j).length=j
  |0=>rfl
  |j+1=>by rw [beTo,List.length_cons,beTo_length n j]
theorem beTo4 (n:Int):beTo n 4=be4 n:=by simp [beTo,be4]
theorem beTo8 (n:Int):beTo n 8=be8 n:=by simp [beTo,be8]
def accTo (m:List Int)(p:Nat):Nat→Int
  |0=>0
  |j+1=>bits BinOp.or IntKind.u32 (accTo m p j*256%4294967296) (lk m (p+j))
theorem accTo_lo (m:List Int)(p:Nat):∀j,0≤accTo m p j∧accTo m p j<4294967296
  |0=>by simp [accTo]
  |j+1=>bits_lo _ _ _
theorem or_add (k:Nat)(a b:Int)(ha:0≤a)(ha1:a<4294967296)(hb:0≤b)(hb1:b<4294967296)(hk:a%2^k=0)(hbk:b<2^k):bits BinOp.or IntKind.u32 a b=a+b:=by
  rw [u32_or a b ha ha1 hb hb1,nat_join k a.toNat b.toNat]
  · omega
  · have:((a.toNat%2^k:Nat):Int)=0:=by
      rw [Int.natCast_emod,Int.toNat_of_nonneg ha];simpa using hk
    omega
  · have:((b.toNat:Nat):Int)<((2^k:Nat):Int):=by rw [Int.toNat_of_nonneg hb];simpa using hbk
    omega
theorem word_sum (m:List Int)(p:Nat)(hb:∀i,0≤lk m i∧lk m i<256):word m p=lk m p*16777216+lk m (p+1)*65536+lk m (p+2)*256+lk m (p+3):=by
  have h0:=hb p;have h1:=hb (p+1);have h2:=hb (p+2);have h3:=hb (p+3);unfold word;rw [or_add 24 (lk m p*16777216) (lk m (p+1)*65536) (by omega) (by omega) (by omega) (by omega) (by omega) (by omega)];rw [or_add 16 (lk m p*16777216+lk m (p+1)*65536) (lk m (p+2)*256) (by omega) (by omega) (by omega) (by omega) (by omega) (by omega)];rw [or_add 8 (lk m p*16777216+lk m (p+1)*65536+lk m (p+2)*256) (lk m (p+3)) (by omega) (by omega) (by omega) (by omega) (by omega) (by omega)]
theorem accTo4 (m:List Int)(p:Nat)(hb:∀i,0≤lk m i∧lk m i<256):accTo m p 4=word m p:=by
  have h0:=hb p;have h1:=hb (p+1);have h2:=hb (p+2);have h3:=hb (p+3);rw [word_sum m p hb]
  have e1:accTo m p 1=lk m p:=by
    show bits BinOp.or IntKind.u32 (0*256%4294967296) (lk m (p+0))=_;rw [Nat.add_zero,or_add 8 _ _ (by omega) (by omega) (by omega) (by omega) (by omega) (by omega)];omega
  have e2:accTo m p 2=lk m p*256+lk m (p+1):=by
    show bits BinOp.or IntKind.u32 (accTo m p 1*256%4294967296) (lk m (p+1))=_;rw [e1,or_add 8 _ _ (by omega) (by omega) (by omega) (by omega) (by omega) (by omega)];omega
  have e3:accTo m p 3=lk m p*65536+lk m (p+1)*256+lk m (p+2):=by
    show bits BinOp.or IntKind.u32 (accTo m p 2*256%4294967296) (lk m (p+2))=_;rw [e2,or_add 8 _ _ (by omega) (by omega) (by omega) (by omega) (by omega) (by omega)];omega
  show bits BinOp.or IntKind.u32 (accTo m p 3*256%4294967296) (lk m (p+3))=_;rw [e3,or_add 8 _ _ (by omega) (by omega) (by omega) (by omega) (by omega) (by omega)];omega
theorem lk_mid (l r:List Int)(x:Int)(k:Nat)(h:l.length=k):lk (l++x::r) k=x:=by
  unfold lk;subst h;simp
theorem set_at (l r:List Int)(x y:Int)(k:Nat)(h:l.length=k):(l++x::r).set k y=l++y::r:=by
  subst h;rw [List.set_append_right _ _ (Nat.le_refl _)];simp
theorem set_rep (l:List Int)(k:Nat)(y:Int)(h:l.length=k)(hk:k<64):(l++List.replicate (64-k) 0).set k y=(l++ [y])++List.replicate (64-(k+1)) 0:=by
  rw [show List.replicate (64-k) (0:Int)=0::List.replicate (64-(k+1)) 0 by rw [←List.replicate_succ];congr 1;omega,set_at _ _ _ _ _ h];simp
theorem cons_snoc (l r:List Int)(x:Int):l++x::r=(l++ [x])++r:=by simp
theorem wsTo_at (m:List Int)(p k:Nat)(h:k<16):wsTo m p (k+1)=wsTo m p k++ [word m (p+4*k)]:=by rw [wsTo,if_pos h]
theorem wsTo_at' (m:List Int)(p k:Nat)(h:16≤k):wsTo m p (k+1)=wsTo m p k++ [nextw (wsTo m p k) k]:=by rw [wsTo,if_neg (by omega)]
theorem rnd_a (s:St)(k w:Int):((s.z+bg1 s.e+chF s.e s.f s.g+w+k+bg0 s.a)%4294967296+majF s.a s.b s.c)%4294967296=(rnd s k w).a:=by
  simp only [rnd,tt1,tt2];omega
theorem rnd_e (s:St)(k w:Int):(s.d+(s.z+bg1 s.e+chF s.e s.f s.g+w+k)%4294967296)%4294967296=(rnd s k w).e:=by
  simp only [rnd,tt1];omega
def stL (s:St):List Int:= [s.a,s.b,s.c,s.d,s.e,s.f,s.g,s.z]
theorem lk_blockF (ks h ws:List Int)(i:Nat)(hi:i<8):lk (blockF ks h ws) i=(lk h i+lk (stL (rndTo (stOf h) ks ws 64)) i)%4294967296:=by
  match i,hi with
  |0,_=>rfl
  |1,_=>rfl
  |2,_=>rfl
  |3,_=>rfl
  |4,_=>rfl
  |5,_=>rfl
  |6,_=>rfl
  |7,_=>rfl
theorem lk_stL {s:St}(h:s.ok)(i:Nat)(hi:i<8):w32 (lk (stL s) i):=by
  obtain⟨h1,h2,h3,h4,h5,h6,h7,h8⟩:=h
  match i,hi with
  |0,_=>exact h1
  |1,_=>exact h2
  |2,_=>exact h3
  |3,_=>exact h4
  |4,_=>exact h5
  |5,_=>exact h6
  |6,_=>exact h7
  |7,_=>exact h8
theorem lk_stOf {h:List Int}(hk:(stOf h).ok)(i:Nat)(hi:i<8):w32 (lk h i):=by
  obtain⟨h1,h2,h3,h4,h5,h6,h7,h8⟩:=hk
  match i,hi with
  |0,_=>exact h1
  |1,_=>exact h2
  |2,_=>exact h3
  |3,_=>exact h4
  |4,_=>exact h5
  |5,_=>exact h6
  |6,_=>exact h7
  |7,_=>exact h8
def tab64 (g:Nat→Int):List Int:=(List.range 64).map g
theorem tab64_length (g:Nat→Int):(tab64 g).length=64:=by simp [tab64]
theorem lk_tab64 (g:Nat→Int)(i:Nat)(h:i<64):lk (tab64 g) i=g i:=by
  unfold lk tab64;rw [List.getD_eq_getElem?_getD,List.getElem?_map,List.getElem?_range h];rfl
theorem lk_over (l:List Int)(i:Nat)(h:l.length≤i):lk l i=0:=by
  unfold lk;rw [List.getD_eq_getElem?_getD,List.getElem?_eq_none h];rfl
theorem tab64_lt (g:Nat→Int)(h:∀i,i<64→0≤g i∧g i<256)(i:Nat):0≤lk (tab64 g) i∧lk (tab64 g) i<256:=by
  by_cases hi:i<64
  · rw [lk_tab64 g i hi];exact h i hi
  · rw [lk_over _ _ (by rw [tab64_length];omega)];omega
theorem word_congr {m m':List Int}{p p':Nat}(h:∀i,i<4→lk m (p+i)=lk m' (p'+i)):word m p=word m' p':=by
  have h0:=h 0 (by omega);have h1:=h 1 (by omega);have h2:=h 2 (by omega);have h3:=h 3 (by omega);rw [Nat.add_zero,Nat.add_zero] at h0;unfold word;rw [h0,h1,h2,h3]
theorem wsTo_congr {m m':List Int}{p p':Nat}(h:∀i,i<64→lk m (p+i)=lk m' (p'+i)):∀k,wsTo m p k=wsTo m' p' k
  |0=>rfl
  | k+1=>by
    rw [wsTo,wsTo,wsTo_congr h k];by_cases hk:k<16
    · rw [if_pos hk,if_pos hk,word_congr (m:=m) (m':=m') (p:=p+4*k) (p':=p'+4*k) (fun i hi=>by rw [Nat.add_assoc,Nat.add_assoc];exact h _ (by omega))]
    · rw [if_neg hk,if_neg hk]
theorem stateTo_congr {m m':List Int}:∀k,(∀i,i<64*k→lk m i=lk m' i)→stateTo m k=stateTo m' k
  |0,_=>rfl
  | k+1,h=>by
    rw [stateTo,stateTo,stateTo_congr k (fun i hi=>h i (by omega)),wsTo_congr (m:=m) (m':=m') (p:=64*k) (p':=64*k) (fun i hi=>h _ (by omega)) 64]
theorem lk_append_ge (l r:List Int)(i:Nat)(h:l.length≤i):lk (l++r) i=lk r (i-l.length):=by
  unfold lk;rw [List.getD_eq_getElem?_getD,List.getD_eq_getElem?_getD,List.getElem?_append_right h]
theorem stateTo_append (t q:List Int)(k:Nat)(h:64*k≤t.length):stateTo (t++q) k=stateTo t k:=
  stateTo_congr k (fun i hi=>lk_append_lt _ _ _ (by omega))
theorem lk_take (l:List Int)(n i:Nat)(h:i<n):lk (l.take n) i=lk l i:=by
  unfold lk;rw [List.getD_eq_getElem?_getD,List.getD_eq_getElem?_getD,List.getElem?_take_of_lt h]
def blkC (blk q:List Int)(f:Nat):List Int:=tab64 (fun i=>if f≤i∧i<f+q.length then lk q (i-f) else lk blk i)
theorem byt_extract (p:ByteArray)(n:Nat):byt (p.extract n p.size)=(byt p).drop n:=by
  simp only [byt,ByteArray.data_extract,Array.toList_extract];rw [List.extract_eq_take_drop,List.take_of_length_le (by simp),List.map_drop]
theorem byt_str (l:List Int)(h:∀x∈l,0≤x∧x<256):byt (strOfNums l)=l:=by
  rw [byt,strOfNums_data,List.map_map]
  conv=>rhs;rw [←List.map_id l]
  refine List.map_congr_left (fun x hx=> ?_);have:=h x hx;simp only [Function.comp,id,UInt8.toNat_ofNat'];omega
theorem byt_append (a b:ByteArray):byt (a++b)=byt a++byt b:=by simp [byt]
section
attribute [local go_sem ↓] Go.wp_at_zero Go.wp_at_succ
theorem infoU8':(prog.info? 5).map (fun i=>(i.zero,i.size,i.bytes))=some (some (.int .u8 0),1,1):=by kernel_rfl
theorem beI_any (n:Int)(k:Nat)(w:World)(h0:0≤n)(h1:n<18446744073709551616)(hk:k≤8)(hk1:1≤k):
    Cr 111 #[int u64 n,.int .i64 k] w (.string (strOfNums (beTo n k))):=by
  obtain⟨i0,hi,hz0,hz1,hz2⟩:=info_parts infoU8'
  obtain⟨w1,hmk,hrow,hbl⟩:∃w1,(Instr.makeSlice 35 (.int .i64 k) (.int .i64 k)).run prog w= .ok (.slice (some ⟨w.heap.size,0,none⟩) k k) w1∧Row w1 w.heap.size w.heap.size k k ((List.replicate k (0:Int)).map (Value.int .u8))∧Bl w w1:=by
    obtain⟨w1,hr,ho,hg⟩:=run_make_full (P:=prog) w w.heap.size 35 5 i0 (.int .u8 0) 1 underlying35 hi hz0 hz1 .i64 .i64 k (by rw [hz2];omega) (by unfold maxLen;omega) (Nat.le_refl _);refine⟨w1,hr,?_,(Below.refl _ _).grown hg (Nat.le_refl _) (fun r hr=>by cases hr)⟩;have hrow:=Row.of_owns ho;rw [show (Value.int .u8 0).cells=#[.int .u8 0] from rfl,Nat.mul_one,toList_madeCells_one] at hrow;rw [List.map_replicate];exact hrow
  go_enter func111,ntmps111;go_wp2
  go_loopw [0,6] (fun nv i wr=>∃j:Nat,j≤k∧nv=int u64 (n/256^j)∧i= .int .i64 ((k:Int)-1-(j:Int))∧Row wr w.heap.size w.heap.size k k ((List.replicate (k-j) (0:Int)++beTo n j).map (Value.int .u8))∧Bl w wr) (fun _ i _=>(intOf i+1).toNat)
  case atStart=>exact ⟨0,by omega,by simp,by simp,by simpa [beTo] using hrow,hbl⟩
  case round=>
    clear hrow hbl hmk;obtain⟨j,hj,rfl,rfl,hrow,hbl⟩:=hrel;have hn0:0≤n/256^j:=Int.ediv_nonneg h0 (Int.le_of_lt (Int.pow_pos (by omega)));have hn1:n/256^j<18446744073709551616:=Int.lt_of_le_of_lt (Int.ediv_le_self _ h0) h1
    have hst:Hid (n/256^(j+1)=n/256^j/256):=by
      simp only [Hid];rw [Int.pow_succ,Int.ediv_ediv_of_nonneg (Int.le_of_lt (Int.pow_pos (by omega)))]
    have hbe:Hid (beTo n (j+1)=n/256^j%256::beTo n j):=rfl;by_cases hlt:j<k
    · generalize n/256^j=N at*;have hge:(0:Int)≤(k:Int)-1-(j:Int):=by omega
      obtain⟨hsome,hfz⟩:=hrow.room (k-1-j) (by omega);obtain⟨v0,hc⟩:=Option.isSome_iff_exists.1 hsome;go_wp2;go_roundw
      case rel=>
        have R1:=hrow.set (k-1-j) (by omega) (.int .u8 (N%256));rw [←List.map_set,set_mid k j hlt _ (N%256),←hbe.out] at R1;have R2:Bl w (wr.setCell ⟨w.heap.size,k-1-j,none⟩ (.int .u8 (N%256))):=hbl.setCell (by simp) _;have R3:Value.int .i64 ((k:Int)-1-(j:Int)-1)=Value.int .i64 ((k:Int)-1-((j+1:Nat):Int)):=by congr 1;omega
        have R4:Value.int .u64 (N/256)=Value.int .u64 (n/256^(j+1)):=by rw [hst.out]
        first
          |exact ⟨j+1,by omega,R4,R3,R1,R2⟩
          |((repeat apply Exists.intro);exact⟨⟨j+1,by omega,R4,R3,R1,R2⟩,rfl⟩)
      case measure=>simp [intOf];omega
    · obtain rfl:j=k:=by omega
      rw [Nat.sub_self,List.replicate_zero,List.nil_append] at hrow;have hcv:=run_convert_bytes_arg (P:=prog) wr 35 5 underlying35 underlying5 w.heap.size 0 j j (beTo n j) (beTo_length n j) (fun i h=>by rw [Nat.zero_add];exact hrow.cell i h) 9 underlying9;go_wp2;go_ret;exact⟨rfl,hbl⟩
end
theorem ret_int {k:IntKind}{a b:Int}(h:a=b):Ending.returned (.int k a)= .returned (.int k b):=by rw [h]
theorem turn_any (x:Int)(n:Int)(w:World)(h0:0≤x)(h1:x<4294967296)(hn:0<n)(hn':n<32):
    Calls prog 186 #[.int .u32 x,.int .i64 n] w fun e w'=>e= .returned (.int .u32 (rotr x n))∧w=w':=by
  go_enter func186,ntmps186;go_wp2;go_ret;exact⟨rfl,rfl⟩
section
attribute [local go_sem ↓] Go.wp_at_zero Go.wp_at_succ
theorem size44:(prog.info? 181).map (·.size)=some 74:=by kernel_rfl
def zeroRh:List Value:=rhL (List.replicate 8 0) (List.replicate 64 0) 0 0
def newRh:List Value:=rhL h0L (List.replicate 64 0) 0 0
theorem zero44 (w:World):(zeroValue 181).run prog w= .ok (.agg zeroRh.toArray) w:=by kernel_rfl
theorem build44 (w:World):(Instr.build 181 #[(0,.agg #[.int .u32 1779033703,.int .u32 3144134277,.int .u32 1013904242,.int .u32 2773480762,.int .u32 1359893119,.int .u32 2600822924,.int .u32 528734635,.int .u32 1541459225])]).run prog w= .ok (.agg newRh.toArray) w:=run_build w _ _ _ (by kernel_rfl)
theorem newRh_len:newRh.length=74:=by decide
theorem zeroRh_len:zeroRh.length=74:=by decide
theorem rhL_one (st blk:List Int)(f z:Int):∀v∈rhL st blk f z,v.oneCell'=true:=by
  intro v hv;simp only [rhL,List.mem_append,List.mem_map,List.mem_cons,List.not_mem_nil,or_false] at hv;rcases hv with (⟨x,_,rfl⟩|⟨x,_,rfl⟩)|rfl|rfl<;>rfl
theorem newI_any (w:World):
    Cr 123 #[] w (.agg newRh.toArray):=by
  have hz:=zero44;have hb:=build44;have hr:=results_mid (P:=prog) (fn:=Tryz.f123) (p:=0) (ty:=181) results123;have hth:(w.alloc (.cells zeroRh.toArray 181)).there w.heap.size 0 74:=there_new w _ _ 74 (by simp [zeroRh_len]);go_enter func123,ntmps123;go_wp2_with (refine wpList_store_mid rfl 181 _ _ rfl w.heap.size 0 newRh.toArray rfl rfl (by simpa [newRh_len] using hth) (by rw [size44];simp [newRh_len]) (all_oneCell_toArray (rhL_one _ _ _ _)) ?_);refine bodyPost_ret (v:= .agg newRh.toArray) (hr _ _ w.heap.size 0 newRh _ rfl (World.rangeAt_setCells_same _ _ _ _ (by rw [newRh_len];exact hth)) underlying181 rfl (by rw [size44,newRh_len])) rfl ⟨rfl,?_⟩;exact below_setCells ((Below.refl _ _).alloc (Nat.le_refl _) _) (Nat.le_refl _) _ _
end
end Go.Proofs.YtjhbckngdclleaaGreatDoor
