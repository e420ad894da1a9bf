import Derived.Test.YtjhbckngdclleaaGreatDoorMrg13
set_option linter.unusedVariables false
set_option maxRecDepth 100000
set_option maxHeartbeats 16000000
namespace Go.Proofs.YtjhbckngdclleaaGreatDoor
open Go.Proofs.Tryz Go.RowKit
open Go.Value (int)
open Go.IntKind (u64)
section
open M
theorem cfpS (args:Array Value)(w:World):(callFunc 45 args).run prog w= .ok (.enter 45 args) w:=by kernel_rfl
end
theorem conv2 (w:World)(a b:Int):(convert 35 9 (.slice (some ⟨w.heap.size,0,none⟩) 2 2)).run prog (w.alloc (Obj.cells #[.int .u8 a,.int .u8 b] 5))= .ok (.string (strOfNums [a,b])) (w.alloc (Obj.cells #[.int .u8 a,.int .u8 b] 5)):=
  run_convert_bytes_arg (P:=prog) (w.alloc (Obj.cells #[.int .u8 a,.int .u8 b] 5)) 35 5 underlying35 underlying5 w.heap.size 0 2 2 [a,b] rfl (fun i hi=>by
    have hh:=heap_alloc_new w (Obj.cells #[.int .u8 a,.int .u8 b] 5);generalize w.alloc (Obj.cells #[.int .u8 a,.int .u8 b] 5)=W at*;rcases(show i=0∨i=1 by omega) with rfl|rfl
    · simp [World.cell?,hh]
    · simp [World.cell?,hh]) 9 underlying9
def sizB (s:ByteArray):ByteArray:=strOfNums [((s.size/256%256:Nat):Int),((s.size%256:Nat):Int)]++s
theorem sizB_size (s:ByteArray):(sizB s).size=s.size+2:=by
  unfold sizB;rw [ByteArray.size_append,strOfNums_size];simp only [List.length_cons,List.length_nil];omega
def numB (i:Nat):ByteArray:=strOfNums [((i/256%256:Nat):Int),((i%256:Nat):Int)]
theorem numB_size (i:Nat):(numB i).size=2:=by unfold numB;rw [strOfNums_size];rfl
theorem sizS_any (s:ByteArray)(w:World)(h:s.size≤65535):
    Cr 46 #[.string s] w (.string (sizB s)):=by
  have h2:((s.size/256%256:Nat):Int)=(s.size:Int)/256:=by omega
  have h3:((s.size%256:Nat):Int)=(s.size:Int)%256:=by omega
  have hcv:=conv2 w ((s.size:Int)/256) ((s.size:Int)%256);unfold sizB;rw [h2,h3];obtain⟨T,hT⟩:∃T,Hid (T=strOfNums [(s.size:Int)/256,(s.size:Int)%256]):=⟨_,rfl⟩;have hTs:T.size=2:=by rw [hT.out,strOfNums_size];rfl
  rw [←hT.out] at hcv⊢;go_enter func46,ntmps46;go_wp2;go_ret;exact⟨rfl,(Below.refl _ w).alloc (Nat.le_refl _) _⟩
def tagB (word:ByteArray)(k:Nat):ByteArray:=word++⟨#[84,79,89,80,82,70,45]⟩++(⟨#[48,49,50]⟩:ByteArray).extract k (k+1)++⟨#[45,77,54,49]⟩
theorem tagB_size (word:ByteArray)(k:Nat)(h:k<3):(tagB word k).size=word.size+12:=by
  rcases(show k=0∨k=1∨k=2 by omega) with rfl|rfl|rfl<;>(unfold tagB;rw [ByteArray.size_append,ByteArray.size_append,ByteArray.size_append];rfl)
theorem tagS_any (word:ByteArray)(k:Nat)(w:World)(hk:k<3)(h:word.size≤100):
    Cr 55 #[.string word,.int .i64 k] w (.string (tagB word k)):=by
  rcases(show k=0∨k=1∨k=2 by omega) with rfl|rfl|rfl
  · go_enter func55,ntmps55;go_wp2;go_ret;exact⟨rfl,Below.refl _ _⟩
  · go_enter func55,ntmps55;go_wp2;go_ret;exact⟨rfl,Below.refl _ _⟩
  · go_enter func55,ntmps55;go_wp2;go_ret;exact⟨rfl,Below.refl _ _⟩
def xorB (l m:List Int):List Int:=List.zipWith (fun x y=>((x.toNat^^^y.toNat:Nat):Int)) l m
theorem xorB_length (l m:List Int):(xorB l m).length=min l.length m.length:=by simp [xorB]
theorem xorB_lt (l m:List Int)(hl:∀x∈l,0≤x∧x<256)(hm:∀x∈m,0≤x∧x<256):∀x∈xorB l m,0≤x∧x<256:=by
  intro x hx;obtain⟨i,hi,rfl⟩:=List.mem_iff_getElem.1 hx;have hi':=hi;rw [xorB_length] at hi';have h1:=hl _ (List.getElem_mem (show i<l.length by omega));have h2:=hm _ (List.getElem_mem (show i<m.length by omega));simp only [xorB,List.getElem_zipWith];have:=Nat.xor_lt_two_pow (n:=8) (x:=l[i].toNat) (y:=m[i].toNat) (by omega) (by omega);omega
def mTag (tag:List Int):List Int:=tag++ [(tag.length:Int)]
def mFirst (msg tag:List Int)(n:Nat):List Int:=shaF (List.replicate 64 0++msg++ [((n/256:Nat):Int),((n%256:Nat):Int),0]++mTag tag)
def mBlk (f t:List Int):Nat→List Int
  |0=>List.replicate 32 0
  |k+1=>shaF (xorB f (mBlk f t k)++ [(k:Int)+1]++t)
def mOut (f t:List Int):Nat→List Int
  |0=> []
  |k+1=>mOut f t k++mBlk f t (k+1)
theorem mBlk_length (f t:List Int):∀k,(mBlk f t k).length=32
  |0=>by simp [mBlk]
  |_+1=>shaF_length _
theorem mBlk_lt (f t:List Int):∀k,∀x∈mBlk f t k,0≤x∧x<256
  |0=>rep_lt 32
  |_+1=>shaF_lt _
theorem mOut_length (f t:List Int):∀k,(mOut f t k).length=32*k
  |0=>rfl
  |k+1=>by rw [mOut,List.length_append,mOut_length f t k,mBlk_length];omega
theorem mOut_lt (f t:List Int):∀k,∀x∈mOut f t k,0≤x∧x<256
  |0,x,h=>by simp [mOut] at h
  | k+1,x,h=>by
    rw [mOut,List.mem_append] at h;rcases h with h|h
    · exact mOut_lt f t k x h
    · exact mBlk_lt f t (k+1) x h
theorem mFirst_length (m t:List Int)(n:Nat):(mFirst m t n).length=32:=shaF_length _
theorem mFirst_lt (m t:List Int)(n:Nat):∀x∈mFirst m t n,0≤x∧x<256:=shaF_lt _
def expM (msg tag:List Int)(n:Nat):List Int:=(mOut (mFirst msg tag n) (mTag tag) ((n+31)/32)).take n
theorem expM_length (msg tag:List Int)(n:Nat):(expM msg tag n).length=n:=by
  rw [expM,List.length_take,mOut_length];omega
theorem expM_lt (msg tag:List Int)(n:Nat):∀x∈expM msg tag n,0≤x∧x<256:=fun x h=>mOut_lt _ _ _ x (List.mem_of_mem_take h)
def piece (l:List Int)(i:Nat):List Int:=(l.drop (24*i)).take 24
end Go.Proofs.YtjhbckngdclleaaGreatDoor
