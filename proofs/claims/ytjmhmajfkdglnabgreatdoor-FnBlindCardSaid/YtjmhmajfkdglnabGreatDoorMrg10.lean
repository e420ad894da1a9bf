import Derived.Test.YtjmhmajfkdglnabGreatDoorMrg9
set_option linter.unusedVariables false
set_option maxRecDepth 100000
set_option maxHeartbeats 16000000
namespace Go.Proofs.YtjmhmajfkdglnabGreatDoor
open Go.Proofs.Tryz Go.RowKit
open Go.Value (int)
open Go.IntKind (u64)
def Cod (W:World)(v:Value):Prop:=(∃p c,v= .slice p 0 c)∨∃b o n c:Nat,0<n∧n≤1048576∧v= .slice (some ⟨b,o,none⟩) n c∧∀i,i<n→∃x:Nat,x<256∧W.cell? ⟨b,o+i,none⟩=some (.int .u8 x)
theorem Cod.below {W W':World}{v:Value}(h:Cod W v)(hb:Bl W W'):Cod W' v:=by
  rcases h with h|⟨b,o,n,c,h0,h1,rfl,hc⟩
  · exact .inl h
  · refine .inr ⟨b,o,n,c,h0,h1,rfl,fun i hi=> ?_⟩;obtain⟨x,hx,hcell⟩:=hc i hi;exact⟨x,hx,(hb.cell (p:=⟨b,o+i,none⟩) (World.block_lt_of_cell? W _ hcell)).trans hcell⟩
theorem xor_i64 (a b:Nat)(ha:a<9223372036854775808)(hb:b<9223372036854775808):bits .xor .i64 (a:Int) (b:Int)=((a^^^b:Nat):Int):=by
  have hx:a^^^b<2^63:=Nat.xor_lt_two_pow (by omega) (by omega)
  have h1:(BitVec.ofInt 64 (a:Int)).toNat=a:=by
    rw [BitVec.ofInt_natCast,BitVec.toNat_ofNat];exact Nat.mod_eq_of_lt (by omega)
  have h2:(BitVec.ofInt 64 (b:Int)).toNat=b:=by
    rw [BitVec.ofInt_natCast,BitVec.toNat_ofNat];exact Nat.mod_eq_of_lt (by omega)
  show IntKind.i64.wrap ((BitVec.ofInt 64 (a:Int)^^^BitVec.ofInt 64 (b:Int)).toNat:Int)=_;rw [BitVec.toNat_xor,h1,h2];generalize a^^^b=z at*;simp [IntKind.wrap,IntKind.bits,IntKind.signed];omega
theorem ret_ii {a b c d:Int}(h:a=c)(h2:b=d):Ending.returned (.tuple #[.int .i64 a,.int .i64 b])= .returned (.tuple #[.int .i64 c,.int .i64 d]):=by rw [h,h2]
theorem take_none_any (q:Option Addr)(c:Nat)(p n:Nat)(w:World)(hp:p≤1000000)(hn:1≤n):
    Calls prog 21 #[.slice q 0 c,.int .i64 p,.int .i64 n] w fun e w'=>e= .returned (.tuple #[.int .i64 0,.int .i64 ((p:Int)+1)])∧w=w':=by
  have h1: ¬ ((n:Int)<1):=by omega
  go_enter func21,ntmps21;go_wp2;go_ret2;exact⟨rfl,rfl⟩
theorem take_near (b o l c:Nat)(p n x:Nat)(w:World)(hl:l≤1048576)(hn:1≤n)(hn2:n≤256)(hpl:p<l)(hx:x<256)(hc:w.cell? ⟨b,o+p,none⟩=some (.int .u8 x)):
    Calls prog 21 #[.slice (some ⟨b,o,none⟩) l c,.int .i64 p,.int .i64 n] w fun e w'=>e= .returned (.tuple #[.int .i64 (x%n:Nat),.int .i64 ((p:Int)+1)])∧w=w':=by
  have h1: ¬ ((n:Int)<1):=by omega
  have h2:((l:Int)==0)=false:=by simp;omega
  have h3:(p:Int)<(l:Int):=by omega
  have h4:(n:Int)≤256:=by omega
  have h5: ¬ (n=0):=by omega
  go_enter func21,ntmps21;go_wp2;go_ret2;exact⟨ret_ii (by simp) rfl,rfl⟩
theorem take_far (b o l c:Nat)(p n i j k x y:Nat)(w:World)(hl0:0<l)(hl:l≤1048576)(hn:1≤n)(hn2:n≤256)(hpl: ¬ p<l)(hp:p≤1000000)(hx:x<256)(hy:y<256)
    (hi:i=p%l)(hj:j=(p*7+3)%l)(hk:k=p/l)(hc:w.cell? ⟨b,o+i,none⟩=some (.int .u8 x))(hd:w.cell? ⟨b,o+j,none⟩=some (.int .u8 y)):
    Calls prog 21 #[.slice (some ⟨b,o,none⟩) l c,.int .i64 p,.int .i64 n] w fun e w'=>(∃z:Nat,z<n∧e= .returned (.tuple #[.int .i64 z,.int .i64 ((p:Int)+1)]))∧w=w':=by
  have h1: ¬ ((n:Int)<1):=by omega
  have h2:((l:Int)==0)=false:=by simp;omega
  have h3: ¬ ((p:Int)<(l:Int)):=by omega
  have h5: ¬ (n=0):=by omega
  have h6: ¬ (l=0):=by omega
  have hi1:i<l:=by rw [hi];exact Nat.mod_lt _ hl0
  have hj1:j<l:=by rw [hj];exact Nat.mod_lt _ hl0
  have hk1:k≤p:=by rw [hk];exact Nat.div_le_self _ _
  have ei:(p:Int)%(l:Int)=(i:Int):=by rw [hi];simp
  have ej:((p:Int)*7+3)%(l:Int)=(j:Int):=by rw [hj];simp
  have ek:(p:Int)/(l:Int)=(k:Int):=by rw [hk];simp
  have hi2:(i:Int)<(l:Int):=by omega
  have hj2:(j:Int)<(l:Int):=by omega
  clear hi hj hk;obtain⟨t,ht⟩:∃t:Nat,t=x*131+y*1117+p*29+k*53:=⟨_,rfl⟩;have ht1:t≤1000000000:=by omega
  have e1:(x:Int)*131+(y:Int)*1117+(p:Int)*29+(k:Int)*53=(t:Int):=by rw [ht];simp
  have e2:(t:Int)/64=((t/64:Nat):Int):=by omega
  have e3:=xor_i64 t (t/64) (by omega) (by omega);rw [←e2] at e3;have ez:((t^^^(t/64):Nat):Int).tmod (n:Int)=(((t^^^(t/64))%n:Nat):Int):=by rw [Int.tmod_eq_emod_of_nonneg (Int.natCast_nonneg _)];simp
  have hz:(t^^^(t/64))%n<n:=Nat.mod_lt _ (by omega);generalize (t^^^(t/64))%n=z at*;generalize t^^^(t/64)=y' at*;clear ht e2;go_enter func21,ntmps21;go_wp2;go_ret2;exact⟨⟨z,hz,rfl⟩,rfl⟩
theorem take_any (v:Value)(p n:Nat)(w:World)(hv:Cod w v)(hn:1≤n)(hn2:n≤256)(hp:p≤1000000):
    Calls prog 21 #[v,.int .i64 p,.int .i64 n] w fun e w'=>(∃z:Nat,z<n∧e= .returned (.tuple #[.int .i64 z,.int .i64 ((p:Int)+1)]))∧w=w':=by
  rcases hv with ⟨q,c,rfl⟩|⟨b,o,l,c,h0,h1,rfl,hc⟩
  · refine(take_none_any q c p n w hp hn).mono ?_;rintro e w' ⟨rfl,rfl⟩;exact⟨⟨0,by omega,rfl⟩,rfl⟩
  · by_cases hpl:p<l
    · obtain⟨x,hx,hcell⟩:=hc p hpl;refine(take_near b o l c p n x w h1 hn hn2 hpl hx hcell).mono ?_;rintro e w' ⟨rfl,rfl⟩;exact⟨⟨x%n,Nat.mod_lt _ (by omega),rfl⟩,rfl⟩
    · obtain⟨x,hx,hcell⟩:=hc (p%l) (Nat.mod_lt _ h0);obtain⟨y,hy,hcell2⟩:=hc ((p*7+3)%l) (Nat.mod_lt _ h0);exact take_far b o l c p n _ _ _ x y w h0 h1 hn hn2 hpl hp hx hy rfl rfl rfl hcell hcell2
theorem infoU8d:(prog.info? 5).map (fun i=>(i.zero,i.size,i.bytes))=some (some (.int .u8 0),1,1):=by kernel_rfl
theorem byt_any (v:Value)(p n:Nat)(w:World)(hv:Cod w v)(hn:n≤1000)(hp:p≤100000):
    Calls prog 94 #[v,.int .i64 p,.int .i64 n] w fun e w'=>(∃s:ByteArray,s.size=n∧e= .returned (.tuple #[.string s,.int .i64 ((p:Int)+(n:Int))]))∧Bl w w':=by
  obtain⟨i0,hi,hz0,hz1,hz2⟩:=info_parts infoU8d;go_enter func94,ntmps94;go_wp2
  go_loopw [1,8,9] (fun q u i wr=>∃(j g cap:Nat) (l:List Int),j≤n∧i= .int .i64 (j:Int)∧q= .int .i64 ((p:Int)+(j:Int))∧u= .slice (some ⟨g,0,none⟩) j cap∧l.length=j∧Row wr w.heap.size g j cap (l.map (Value.int .u8))∧Bl w wr) (fun _ _ i _=>n-(intOf i).toNat)
  case atStart=>exact ⟨0,w.heap.size,0,[],by omega,rfl,by simp,rfl,rfl,Row.of_block (n:=0) (cs:=#[]) (heap_alloc_new w _) (Nat.le_refl _) (by simp) (by simp),(Below.refl _ _).alloc (Nat.le_refl _) _⟩
  case round=>
    obtain⟨j,g1,cap1,l,hj,rfl,rfl,rfl,hll,hrow,hbl⟩:=hrel;have hsz1:w.heap.size≤wr.heap.size:=hbl.size;by_cases hlt:j<n
    · have T:=fun w hv=>take_any v (p+j) 256 w hv (by omega) (by omega) (by omega)
      have e1:((p+j:Nat):Int)=(p:Int)+(j:Int):=by omega
      rw [e1] at T;have hlti:(j:Int)<(n:Int):=by omega
      clear e1;go_wp2_with fail;refine(T _ (hv.below hbl)).mono ?_;rintro e w2 ⟨⟨z,hz,rfl⟩,rfl⟩;clear T;have ez:IntKind.u8.wrap (z:Int)=(z:Int):=by rw [IntKind.wrap_u8];omega
      go_wp2_with (first
        |(at_builtin;refine wpList_append_row rfl _ _ 22 rfl w.heap.size 5 i0 (.int .u8 0) 1 underlying22 hi hz0 hz1 hz2 rfl g1 j cap1 (l.map (Value.int .u8)) rfl (hrow.alloc _) ⟨wr.heap.size,0,none⟩ 1 1 [.int .u8 z] rfl rfl (World.news_of_block (cs:=#[.int .u8 z]) (heap_alloc_new wr _)) (by simp [Value.oneCell']) (by unfold maxLen;omega) (by omega) (by simp;omega) _ rfl ?_;intro g3 cap3 w3 hrow3 hgr3 _ _)
        |go_in)
      have R1:Row w3 w.heap.size g3 (j+1) cap3 ((l++ [(z:Int)]).map (Value.int .u8)):=by rw [List.map_append];exact hrow3
      have R2:Bl w w3:=(hbl.alloc hsz1 _).grown hgr3 (by simp;omega) (fun r hr=>by simp at hr;have:=hrow.lo;omega);go_roundw
      case rel=>exact ⟨j+1,g3,cap3,l++ [(z:Int)],by omega,by go_num,(by first|(congr 1;omega)|congr 1),rfl,by simp [hll],R1,R2⟩
      case measure=>simp [intOf];omega
    · obtain rfl:j=n:=by omega
      have hcv:=run_convert_bytes_arg (P:=prog) wr 22 5 underlying22 underlying5 g1 0 j cap1 l hll (fun i h=>by rw [Nat.zero_add];exact hrow.cell i h) 9 underlying9;go_wp2;go_ret2;exact⟨⟨_,by rw [strOfNums_size];exact hll,rfl⟩,hbl⟩
def strLen:Value→Nat
  | .string s=>s.size
  |_=>0
theorem long_any (b:ByteArray)(hb:b.size=2):∀(n:Nat),n≤65536→∀(w:World),
    Calls prog 93 #[.int .i64 n,.string b] w fun e w'=>(∃s:ByteArray,s.size≤n+1∧e= .returned (.string s))∧w=w':=by
  intro n
  induction n using Nat.strongRecOn with
  |_ n ih=>
  intro hn w;by_cases h0:n=0
  · subst h0;go_enter func93,ntmps93;go_wp2
    go_loop [5] (fun v=>v= .string ByteArray.empty) (fun _=>0)
    case atStart=>rfl
    case round=>
      subst hrel;go_wp2;go_ret;exact⟨⟨_,by decide,rfl⟩,rfl⟩
  · have hpos:(0:Int)<(n:Int):=by omega
    go_enter func93,ntmps93;go_wp2
    go_loop [5] (fun v=>∃s:ByteArray,v= .string s∧2≤s.size∧s.size≤n+1) (fun v=>n+2-strLen v)
    case atStart=>exact ⟨b,rfl,by omega,by omega⟩
    case round=>
      obtain⟨s,rfl,h2,h3⟩:=hrel;by_cases hm:s.size*2≤n
      · have hmi:(s.size:Int)*2≤(n:Int):=by omega
        go_wp2;have hsz:(s++s).size=s.size+s.size:=by simp
        go_round
        case rel=>exact ⟨s++s,rfl,by omega,by omega⟩
        case measure=>simp [strLen];omega
      · have hmi: ¬ ((s.size:Int)*2≤(n:Int)):=by omega
        by_cases hl:s.size<n
        · have hli:(s.size:Int)<(n:Int):=by omega
          have I:=ih (n-s.size) (by omega) (by omega);have e1:((n-s.size:Nat):Int)=(n:Int)-(s.size:Int):=by omega
          rw [e1] at I;go_wp2_with fail;refine(I _).mono ?_;rintro e w' ⟨⟨r,hr,rfl⟩,rfl⟩;clear I ih;go_wp2;go_ret;exact⟨⟨s++r,by simp;omega,rfl⟩,rfl⟩
        · have hli: ¬ ((s.size:Int)<(n:Int)):=by omega
          go_wp2;go_ret;exact⟨⟨s,by omega,rfl⟩,rfl⟩
theorem ret_si {s t:ByteArray}{a b:Int}(h:s=t)(h2:a=b):Ending.returned (.tuple #[.string s,.int .i64 a])= .returned (.tuple #[.string t,.int .i64 b]):=by rw [h,h2]
theorem ret_ui {a b c d:Int}(h:a=c)(h2:b=d):Ending.returned (.tuple #[int u64 a,.int .i64 b])= .returned (.tuple #[int u64 c,.int .i64 d]):=by rw [h,h2]
theorem some_any (v:Value)(p:Nat)(w:World)(hv:Cod w v)(hp:p≤50000):
    Calls prog 53 #[v,.int .i64 p] w fun e w'=>(∃(s:ByteArray) (q:Nat),s.size≤65537∧q≤p+42∧e= .returned (.tuple #[.string s,.int .i64 q]))∧Bl w w':=by
  have T1:=take_any v p 80 w hv (by omega) (by omega) (by omega);have T2:=take_any v (p+1) 40 w hv (by omega) (by omega) (by omega);have e1:((p+1:Nat):Int)=(p:Int)+1:=by omega
  rw [e1] at T2;clear e1;go_enter func53,ntmps53;go_wp2_with fail;refine T1.mono ?_;rintro e w1 ⟨⟨z,hz,rfl⟩,rfl⟩;go_wp2_with fail;refine T2.mono ?_;rintro e w1 ⟨⟨y,hy,rfl⟩,rfl⟩;clear T1 T2;by_cases h79:z=79
  · subst h79;have L:=long_any ⟨#[105,110]⟩ rfl (65535+y%2) (by omega);have e1:((65535+y%2:Nat):Int)=65535+(y:Int)%2:=by omega
    rw [e1] at L;clear e1;go_wp2_with fail;refine(L _).mono ?_;rintro e w1 ⟨⟨s,hs,rfl⟩,rfl⟩;go_wp2;go_ret2;exact⟨⟨s,p+2,by omega,by omega,ret_si rfl (by omega)⟩,Below.refl _ _⟩
  · have h79i:((z:Int)==79)=false:=by simp;omega
    by_cases h8:z<8
    · have h8i:(z:Int)<8:=by omega
      go_wp2;go_ret2;exact⟨⟨ByteArray.empty,p+2,by decide,by omega,ret_si rfl (by omega)⟩,Below.refl _ _⟩
    · have h8i: ¬ ((z:Int)<8):=by omega
      have L:=byt_any v (p+2) y w hv (by omega) (by omega);have e1:((p+2:Nat):Int)=(p:Int)+1+1:=by omega
      rw [e1] at L;clear e1;go_wp2_with fail;refine L.mono ?_;rintro e w1 ⟨⟨s,hs,rfl⟩,hb⟩;go_wp2;go_ret2;exact⟨⟨s,p+2+y,by omega,by omega,ret_si rfl (by omega)⟩,hb⟩
def numL (l:List Int):Nat:=l.foldl (fun r x=>r*256+x.toNat) 0
theorem numL_snoc (l:List Int)(x:Int):numL (l++ [x])=numL l*256+x.toNat:=by simp [numL]
theorem byt_take (s:ByteArray)(k:Nat)(h:k<s.size):(byt s).take (k+1)=(byt s).take k++ [(s[k].toNat:Int)]:=by
  rw [List.take_succ_eq_append_getElem (by rw [byt_length];exact h)];simp [byt];rfl
theorem numL_take (s:ByteArray)(k:Nat)(h:k<s.size):numL ((byt s).take (k+1))=numL ((byt s).take k)*256+s[k].toNat:=by
  rw [byt_take s k h,numL_snoc];simp
theorem numL_lt (l:List Int)(h:∀x∈l,0≤x∧x<256):numL l<256^l.length:=by
  suffices∀(l:List Int) (a n:Nat),(∀x∈l,0≤x∧x<256)→a<256^n→l.foldl (fun r x=>r*256+x.toNat) a<256^(n+l.length) by
    have:=this l 0 0 h (by decide);rwa [Nat.zero_add] at this
  intro l
  induction l with
  |nil=>intro a n _ h;simpa using h
  | cons x l ih=>
    intro a n hx ha
    have:=ih (a*256+x.toNat) (n+1) (fun y hy=>hx y (List.mem_cons_of_mem _ hy)) (by
      have:=hx x List.mem_cons_self
      rw [Nat.pow_succ];omega)
    rw [List.foldl_cons,List.length_cons,show n+(l.length+1)=n+1+l.length by omega];exact this
theorem numL_take_lt (s:ByteArray)(k:Nat)(hk:k<8):numL ((byt s).take k)<72057594037927936:=by
  have h1:=numL_lt ((byt s).take k) (fun x hx=>byt_lt s x (List.mem_of_mem_take hx));have h2:(256:Nat)^((byt s).take k).length≤256^7:=Nat.pow_le_pow_right (by decide) (by rw [List.length_take];omega);have:(256:Nat)^7=72057594037927936:=by decide
  omega
theorem numL_8 (s:ByteArray)(h:s.size=8):numL (byt s)<18446744073709551616:=by
  have h1:=numL_lt (byt s) (byt_lt s);rw [byt_length,h] at h1;have:(256:Nat)^8=18446744073709551616:=by decide
  omega
theorem or_byte (z:Nat)(v:UInt8):bits .or .u64 (IntKind.u64.wrap ((z:Int)*256)) ((v.toNat:Nat):Int)=((z*256%18446744073709551616+v.toNat:Nat):Int):=by
  have hv:=v.toNat_lt;have e:IntKind.u64.wrap ((z:Int)*256)=((z*256%18446744073709551616:Nat):Int):=by rw [IntKind.wrap_u64];omega
  rw [e,orN _ _ (Nat.mod_lt _ (by decide)) (by omega)];have e2:z*256%18446744073709551616=z%72057594037927936*2^8:=by omega
  rw [e2,Dv.or_add _ _ 8 (by omega)]
end Go.Proofs.YtjmhmajfkdglnabGreatDoor
