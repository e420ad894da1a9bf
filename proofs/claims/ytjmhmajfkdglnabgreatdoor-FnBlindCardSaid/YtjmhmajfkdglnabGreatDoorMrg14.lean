import Derived.Test.YtjmhmajfkdglnabGreatDoorMrg13
set_option linter.unusedVariables false
set_option maxRecDepth 100000
set_option maxHeartbeats 16000000
namespace Go.Proofs.YtjmhmajfkdglnabGreatDoor
open Go.Proofs.Tryz Go.RowKit
open Go.Value (int)
open Go.IntKind (u64)
theorem str_take (l:List Int)(n:Nat):(strOfNums l).extract 0 n=strOfNums (l.take n):=by
  apply ByteArray.ext;simp [strOfNums,List.map_take]
theorem str_append' (l r:List Int):strOfNums l++strOfNums r=strOfNums (l++r):=by
  apply ByteArray.ext;simp [strOfNums]
theorem byt_one (k:Nat)(h:k<255):byt (strOfNums [(k:Int)+1])= [(k:Int)+1]:=byt_str _ (fun x hx=>by simp at hx;omega)
def xorB (l m:List Int):List Int:=List.zipWith (fun x y=>((x.toNat^^^y.toNat:Nat):Int)) l m
theorem xorB_length (l m:List Int):(xorB l m).length=min l.length m.length:=by simp [xorB]
theorem xorB_lt (l m:List Int)(hl:∀x∈l,0≤x∧x<256)(hm:∀x∈m,0≤x∧x<256):∀x∈xorB l m,0≤x∧x<256:=by
  intro x hx;obtain⟨i,hi,rfl⟩:=List.mem_iff_getElem.1 hx;have hi':=hi;rw [xorB_length] at hi';have h1:=hl _ (List.getElem_mem (show i<l.length by omega));have h2:=hm _ (List.getElem_mem (show i<m.length by omega));simp only [xorB,List.getElem_zipWith];have:=Nat.xor_lt_two_pow (n:=8) (x:=l[i].toNat) (y:=m[i].toNat) (by omega) (by omega);omega
def mTag (tag:List Int):List Int:=tag++ [(tag.length:Int)]
def mFirst (msg tag:List Int)(n:Nat):List Int:=shaF (List.replicate 64 0++msg++ [((n/256:Nat):Int),((n%256:Nat):Int),0]++mTag tag)
def mBlk (f t:List Int):Nat→List Int
  |0=>List.replicate 32 0
  |k+1=>shaF (xorB f (mBlk f t k)++ [(k:Int)+1]++t)
def mOut (f t:List Int):Nat→List Int
  |0=> []
  |k+1=>mOut f t k++mBlk f t (k+1)
theorem mBlk_length (f t:List Int):∀k,(mBlk f t k).length=32
  |0=>by simp [mBlk]
  |_+1=>shaF_length _
theorem mBlk_lt (f t:List Int):∀k,∀x∈mBlk f t k,0≤x∧x<256
  |0=>rep_lt 32
  |_+1=>shaF_lt _
theorem mOut_length (f t:List Int):∀k,(mOut f t k).length=32*k
  |0=>rfl
  |k+1=>by rw [mOut,List.length_append,mOut_length f t k,mBlk_length];omega
theorem mOut_lt (f t:List Int):∀k,∀x∈mOut f t k,0≤x∧x<256
  |0,x,h=>by simp [mOut] at h
  | k+1,x,h=>by
    rw [mOut,List.mem_append] at h;rcases h with h|h
    · exact mOut_lt f t k x h
    · exact mBlk_lt f t (k+1) x h
theorem mFirst_length (m t:List Int)(n:Nat):(mFirst m t n).length=32:=shaF_length _
theorem mFirst_lt (m t:List Int)(n:Nat):∀x∈mFirst m t n,0≤x∧x<256:=shaF_lt _
def expM (msg tag:List Int)(n:Nat):List Int:=(mOut (mFirst msg tag n) (mTag tag) ((n+31)/32)).take n
theorem expM_length (msg tag:List Int)(n:Nat):(expM msg tag n).length=n:=by
  rw [expM,List.length_take,mOut_length];omega
theorem expM_lt (msg tag:List Int)(n:Nat):∀x∈expM msg tag n,0≤x∧x<256:=fun x h=>mOut_lt _ _ _ x (List.mem_of_mem_take h)
def piece (l:List Int)(i:Nat):List Int:=(l.drop (24*i)).take 24
theorem infoU8x:(prog.info? 5).map (fun i=>(i.zero,i.size,i.bytes))=some (some (.int .u8 0),1,1):=by kernel_rfl
theorem xorB_take (a b:ByteArray)(j:Nat)(ha:j<a.size)(hb:j<b.size):(xorB (byt a) (byt b)).take (j+1)=(xorB (byt a) (byt b)).take j++ [((a[j].toNat^^^b[j].toNat:Nat):Int)]:=by
  rw [List.take_succ_eq_append_getElem (by rw [xorB_length,byt_length,byt_length];omega)];simp [xorB,byt];rfl
theorem bothS_any (a b:ByteArray)(w:World)(ha:a.size≤1000)(hab:a.size≤b.size):
    Cr 166 #[.string a,.string b] w (.string (strOfNums (xorB (byt a) (byt b)))):=by
  obtain⟨i0,hi,hz0,hz1,hz2⟩:=info_parts infoU8x;have hlen:(xorB (byt a) (byt b)).length=a.size:=by rw [xorB_length,byt_length,byt_length];omega
  have htk:=xorB_take a b;generalize xorB (byt a) (byt b)=L at*;go_enter func166,ntmps166;go_wp2
  go_loopw [5,6] (fun v i wr=>∃j g cap:Nat,j≤a.size∧i= .int .i64 (j:Int)∧v= .slice (some ⟨g,0,none⟩) j cap∧Row wr w.heap.size g j cap ((L.take j).map (Value.int .u8))∧Bl w wr) (fun _ i _=>a.size-(intOf i).toNat)
  case atStart=>exact ⟨0,w.heap.size,0,by omega,rfl,rfl,Row.of_block (n:=0) (cs:=#[]) (heap_alloc_new w _) (Nat.le_refl _) (by simp) (by simp),(Below.refl _ _).alloc (Nat.le_refl _) _⟩
  case round=>
    obtain⟨j,g1,cap1,hj,rfl,rfl,hrow,hbl⟩:=hrel;have hsz1:w.heap.size≤wr.heap.size:=hbl.size;by_cases hlt:j<a.size
    · have hlt2:j<b.size:=by omega
      have hlti:(j:Int)<(a.size:Int):=by omega
      have hlti2:(j:Int)<(b.size:Int):=by omega
      have ex:=u8_xor_nat a[j].toNat b[j].toNat a[j].toNat_lt b[j].toNat_lt;have ht:=htk j hlt hlt2;generalize a[j].toNat^^^b[j].toNat=z at*;have tj:((j:Int)).toNat=j:=by omega
      go_wp2
      go_region_held3 (fun _=>True) (trivial)
        ((refine step_append_row (by rfl) _ _ _ (by rfl) w.heap.size 5 i0 _ 1 underlying22 hi hz0 hz1 hz2 rfl g1 j cap1 ((L.take j).map (Value.int .u8)) (by rfl) (hrow.alloc _).drew ⟨wr.heap.size,0,none⟩ 1 1 [.int .u8 z] (by rfl) (by rfl) (World.news_of_block (cs:=#[.int .u8 z]) (t:=5) (fr:=(0,0)) (heap_alloc_new wr _)) (by simp [Value.oneCell']) (by unfold maxLen;omega) (by omega) (by simp;omega) (wr.heap.size+1) (by simp) ?_;intro g3 cap3 w3 hrow3 hgr3 _ _))
      all_goals go_wp2
      all_goals
        have R1:Row w3 w.heap.size g3 (j+1) cap3 ((L.take (j+1)).map (Value.int .u8)):=by rw [ht,List.map_append];exact hrow3
        have R2:Bl w w3:=((hbl.alloc hsz1 _).drew).grown hgr3 (by simp;omega) (fun r hr=>by simp at hr;have:=hrow.lo;omega);exact⟨⟨j+1,g3,cap3,by omega,by go_num,rfl,R1,R2⟩,by simp [intOf];omega⟩
    · obtain rfl:j=a.size:=by omega
      rw [List.take_of_length_le (by omega)] at hrow;have hcv:=run_convert_bytes_arg (P:=prog) wr 22 5 underlying22 underlying5 g1 0 a.size cap1 L hlen (fun i h=>by rw [Nat.zero_add];exact hrow.cell i h) 9 underlying9;go_wp2;go_ret;exact⟨rfl,hbl⟩
def strN:Value→Nat
  | .string s=>s.size
  |_=>0
theorem zeros_app (m n:Nat):strOfNums (List.replicate m 0)++strOfNums (List.replicate n 0)=strOfNums (List.replicate (m+n) 0):=by
  rw [←List.replicate_append_replicate];apply ByteArray.ext;simp [strOfNums]
theorem lonZ_any:∀(n:Nat),n≤65536→∀(w:World),
    Calls prog 93 #[.int .i64 n,.string ⟨#[0]⟩] w fun e w'=>e= .returned (.string (strOfNums (List.replicate n 0)))∧w=w':=by
  intro n
  induction n using Nat.strongRecOn with
  |_ n ih=>
  intro hn w;by_cases h0:n=0
  · subst h0;go_enter func93,ntmps93;go_wp2
    go_loop [5] (fun v=>v= .string ByteArray.empty) (fun _=>0)
    case atStart=>rfl
    case round=>
      subst hrel;go_wp2;go_ret;exact⟨rfl,rfl⟩
  · have hpos:(0:Int)<(n:Int):=by omega
    go_enter func93,ntmps93;go_wp2
    go_loop [5] (fun v=>∃(s:ByteArray) (m:Nat),v= .string s∧s=strOfNums (List.replicate m 0)∧s.size=m∧1≤m∧m≤n) (fun v=>n+2-strN v)
    case atStart=>exact ⟨⟨#[0]⟩,1,rfl,rfl,rfl,by omega,by omega⟩
    case round=>
      obtain⟨s,m,rfl,hs,hm,h1,h2⟩:=hrel;have hsi:(s.size:Int)=(m:Int):=by omega
      by_cases hd:m*2≤n
      · have hmi:(m:Int)*2≤(n:Int):=by omega
        have hsz:(s++s).size=m+m:=by simp;omega
        have hss:Hid (s++s=strOfNums (List.replicate (m+m) 0)):=by simp only [Hid];rw [hs,zeros_app]
        clear hs;go_wp2;go_round
        case rel=>exact ⟨s++s,m+m,rfl,hss.out,hsz,by omega,by omega⟩
        case measure=>simp only [strN];omega
      · have hmi: ¬ ((m:Int)*2≤(n:Int)):=by omega
        by_cases hl:m<n
        · have hli:(m:Int)<(n:Int):=by omega
          have I:=ih (n-m) (by omega) (by omega);have e1:((n-m:Nat):Int)=(n:Int)-(m:Int):=by omega
          rw [e1] at I;have hss:Hid (s++strOfNums (List.replicate (n-m) 0)=strOfNums (List.replicate n 0)):=by simp only [Hid];rw [hs,zeros_app];congr 2;omega
          clear hs e1 ih;have hrz:(strOfNums (List.replicate (n-m) 0)).size≤65536:=by rw [strOfNums_size,List.length_replicate];omega
          generalize strOfNums (List.replicate (n-m) 0)=r at*;have hsz2:s.size≤65536:=by omega
          go_wp2_with fail;refine(I _).mono ?_;rintro e w' ⟨rfl,rfl⟩;clear I;go_wp2;go_ret;exact⟨by rw [←hss.out];rfl,rfl⟩
        · have hli: ¬ ((m:Int)<(n:Int)):=by omega
          obtain rfl:m=n:=by omega
          have hss:Hid (s=strOfNums (List.replicate m 0)):=hs;clear hs;go_wp2;go_ret;exact⟨by rw [←hss.out];rfl,rfl⟩
end Go.Proofs.YtjmhmajfkdglnabGreatDoor
