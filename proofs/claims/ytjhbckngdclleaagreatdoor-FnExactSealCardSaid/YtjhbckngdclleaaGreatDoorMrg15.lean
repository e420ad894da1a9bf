import Derived.Test.YtjhbckngdclleaaGreatDoorMrg14
set_option linter.unusedVariables false
set_option maxRecDepth 100000
set_option maxHeartbeats 16000000
namespace Go.Proofs.YtjhbckngdclleaaGreatDoor
open Go.Proofs.Tryz Go.RowKit
open Go.Value (int)
open Go.IntKind (u64)
theorem infoU8x:(prog.info? 5).map (fun i=>(i.zero,i.size,i.bytes))=some (some (.int .u8 0),1,1):=by kernel_rfl
theorem xorB_take (a b:ByteArray)(j:Nat)(ha:j<a.size)(hb:j<b.size):(xorB (byt a) (byt b)).take (j+1)=(xorB (byt a) (byt b)).take j++ [((a[j].toNat^^^b[j].toNat:Nat):Int)]:=by
  rw [List.take_succ_eq_append_getElem (by rw [xorB_length,byt_length,byt_length];omega)];simp [xorB,byt];rfl
theorem bothS_any (a b:ByteArray)(w:World)(ha:a.size≤1000)(hab:a.size≤b.size):
    Cr 191 #[.string a,.string b] w (.string (strOfNums (xorB (byt a) (byt b)))):=by
  obtain⟨i0,hi,hz0,hz1,hz2⟩:=info_parts infoU8x;have hlen:(xorB (byt a) (byt b)).length=a.size:=by rw [xorB_length,byt_length,byt_length];omega
  have htk:=xorB_take a b;generalize xorB (byt a) (byt b)=L at*;go_enter func191,ntmps191;go_wp2
  go_loopw [5,6] (fun v i wr=>∃j g cap:Nat,j≤a.size∧i= .int .i64 (j:Int)∧v= .slice (some ⟨g,0,none⟩) j cap∧Row wr w.heap.size g j cap ((L.take j).map (Value.int .u8))∧Bl w wr) (fun _ i _=>a.size-(intOf i).toNat)
  case atStart=>exact ⟨0,w.heap.size,0,by omega,rfl,rfl,Row.of_block (n:=0) (cs:=#[]) (heap_alloc_new w _) (Nat.le_refl _) (by simp) (by simp),(Below.refl _ _).alloc (Nat.le_refl _) _⟩
  case round=>
    obtain⟨j,g1,cap1,hj,rfl,rfl,hrow,hbl⟩:=hrel;have hsz1:w.heap.size≤wr.heap.size:=hbl.size;by_cases hlt:j<a.size
    · have hlt2:j<b.size:=by omega
      have hlti:(j:Int)<(a.size:Int):=by omega
      have hlti2:(j:Int)<(b.size:Int):=by omega
      have ex:=u8_xor_nat a[j].toNat b[j].toNat a[j].toNat_lt b[j].toNat_lt;have ht:=htk j hlt hlt2;generalize a[j].toNat^^^b[j].toNat=z at*;have tj:((j:Int)).toNat=j:=by omega
      go_wp2
      go_region_held3 (fun _=>True) (trivial)
        ((refine step_append_row (by rfl) _ _ _ (by rfl) w.heap.size 5 i0 _ 1 underlying35 hi hz0 hz1 hz2 rfl g1 j cap1 ((L.take j).map (Value.int .u8)) (by rfl) (hrow.alloc _).drew ⟨wr.heap.size,0,none⟩ 1 1 [.int .u8 z] (by rfl) (by rfl) (World.news_of_block (cs:=#[.int .u8 z]) (t:=5) (fr:=(0,0)) (heap_alloc_new wr _)) (by simp [Value.oneCell']) (by unfold maxLen;omega) (by omega) (by simp;omega) (wr.heap.size+1) (by simp) ?_;intro g3 cap3 w3 hrow3 hgr3 _ _))
      all_goals go_wp2
      all_goals
        have R1:Row w3 w.heap.size g3 (j+1) cap3 ((L.take (j+1)).map (Value.int .u8)):=by rw [ht,List.map_append];exact hrow3
        have R2:Bl w w3:=((hbl.alloc hsz1 _).drew).grown hgr3 (by simp;omega) (fun r hr=>by simp at hr;have:=hrow.lo;omega);exact⟨⟨j+1,g3,cap3,by omega,by go_num,rfl,R1,R2⟩,by simp [intOf];omega⟩
    · obtain rfl:j=a.size:=by omega
      rw [List.take_of_length_le (by omega)] at hrow;have hcv:=run_convert_bytes_arg (P:=prog) wr 35 5 underlying35 underlying5 g1 0 a.size cap1 L hlen (fun i h=>by rw [Nat.zero_add];exact hrow.cell i h) 9 underlying9;go_wp2;go_ret;exact⟨rfl,hbl⟩
def strN:Value→Nat
  | .string s=>s.size
  |_=>0
theorem zeros_app (m n:Nat):strOfNums (List.replicate m 0)++strOfNums (List.replicate n 0)=strOfNums (List.replicate (m+n) 0):=by
  rw [←List.replicate_append_replicate];apply ByteArray.ext;simp [strOfNums]
theorem lonZ_any:∀(n:Nat),n≤65536→∀(w:World),
    Calls prog 52 #[.int .i64 n,.string ⟨#[0]⟩] w fun e w'=>e= .returned (.string (strOfNums (List.replicate n 0)))∧w=w':=by
  intro n
  induction n using Nat.strongRecOn with
  |_ n ih=>
  intro hn w;by_cases h0:n=0
  · subst h0;go_enter func52,ntmps52;go_wp2
    go_loop [5] (fun v=>v= .string ByteArray.empty) (fun _=>0)
    case atStart=>rfl
    case round=>
      subst hrel;go_wp2;go_ret;exact⟨rfl,rfl⟩
  · have hpos:(0:Int)<(n:Int):=by omega
    go_enter func52,ntmps52;go_wp2
    go_loop [5] (fun v=>∃(s:ByteArray) (m:Nat),v= .string s∧s=strOfNums (List.replicate m 0)∧s.size=m∧1≤m∧m≤n) (fun v=>n+2-strN v)
    case atStart=>exact ⟨⟨#[0]⟩,1,rfl,rfl,rfl,by omega,by omega⟩
    case round=>
      obtain⟨s,m,rfl,hs,hm,h1,h2⟩:=hrel;have hsi:(s.size:Int)=(m:Int):=by omega
      by_cases hd:m*2≤n
      · have hmi:(m:Int)*2≤(n:Int):=by omega
        have hsz:(s++s).size=m+m:=by simp;omega
        have hss:Hid (s++s=strOfNums (List.replicate (m+m) 0)):=by simp only [Hid];rw [hs,zeros_app]
        clear hs;go_wp2;go_round
        case rel=>exact ⟨s++s,m+m,rfl,hss.out,hsz,by omega,by omega⟩
        case measure=>simp only [strN];omega
      · have hmi: ¬ ((m:Int)*2≤(n:Int)):=by omega
        by_cases hl:m<n
        · have hli:(m:Int)<(n:Int):=by omega
          have I:=ih (n-m) (by omega) (by omega);have e1:((n-m:Nat):Int)=(n:Int)-(m:Int):=by omega
          rw [e1] at I;have hss:Hid (s++strOfNums (List.replicate (n-m) 0)=strOfNums (List.replicate n 0)):=by simp only [Hid];rw [hs,zeros_app];congr 2;omega
          clear hs e1 ih;have hrz:(strOfNums (List.replicate (n-m) 0)).size≤65536:=by rw [strOfNums_size,List.length_replicate];omega
          generalize strOfNums (List.replicate (n-m) 0)=r at*;have hsz2:s.size≤65536:=by omega
          go_wp2_with fail;refine(I _).mono ?_;rintro e w' ⟨rfl,rfl⟩;clear I;go_wp2;go_ret;exact⟨by rw [←hss.out];rfl,rfl⟩
        · have hli: ¬ ((m:Int)<(n:Int)):=by omega
          obtain rfl:m=n:=by omega
          have hss:Hid (s=strOfNums (List.replicate m 0)):=hs;clear hs;go_wp2;go_ret;exact⟨by rw [←hss.out];rfl,rfl⟩
section
variable {ev:Operand→Value}{w:World}{dst:Option Tmp}{ty:TypeId}{ps:String}{af:Array Edge}{gd:Option (Nat×Bool)}{x y z x4 x5:Operand}{b i:Nat}
theorem execS_call1 {F:FuncId}{at_:Array TypeId}{u:Value}(hF:ev (.func F)= .func (.func F) #[] #[])(hcf:∀(args:Array Value) (w:World),(callFunc F args).run prog w= .ok (.enter F args) w)(hx:ev x=u):
    (execOp ev (Opr dst (.call {callee:= .value (.func F),args:=#[x],argTypes:=at_}) ty ps af gd)).run prog w= .ok (.enter F #[u]) w:=by
  simp [execOp,hx,hF,hcf,go_sem]
theorem execS_call2 {F:FuncId}{at_:Array TypeId}{u v:Value}(hF:ev (.func F)= .func (.func F) #[] #[])(hcf:∀(args:Array Value) (w:World),(callFunc F args).run prog w= .ok (.enter F args) w)(hx:ev x=u)(hy:ev y=v):
    (execOp ev (Opr dst (.call {callee:= .value (.func F),args:=#[x,y],argTypes:=at_}) ty ps af gd)).run prog w= .ok (.enter F #[u,v]) w:=by
  simp [execOp,hx,hy,hF,hcf,go_sem]
theorem execS_move {u:Value}(hx:ev x=u):
    (execOp ev (Opr dst (.move x) ty ps af gd)).run prog w= .ok (.value u) w:=by
  simp [execOp,hx,go_sem]
theorem execS_assign {v:Value}(hx:ev x=v):
    (execOp ev (Opr dst (.assign x) ty ps af gd)).run prog w= .ok (.value v) w:=by
  simp [execOp,hx,go_sem]
theorem execS_cat {a b:ByteArray}(hx:ev x= .string a)(hy:ev y= .string b)(hz:a.size+b.size≤9223372036854775807):
    (execOp ev (Opr dst (.binOp .add 9 x y 9) ty ps af gd)).run prog w= .ok (.value (.string (a++b))) w:=by
  have h: ¬ (9223372036854775807<a.size+b.size):=by omega
  simp [execOp,hx,hy,h,go_sem]
theorem execS_c8 {n m:Int}(hx:ev x= .int .i64 n)(hm:IntKind.u8.wrap n=m):
    (execOp ev (Opr dst (.convert 3 5 x) ty ps af gd)).run prog w= .ok (.value (.int .u8 m)) w:=by
  simp [execOp,hx,hm,go_sem]
theorem execS_c64 {n m:Int}(hx:ev x= .int .i64 n)(hm:IntKind.u64.wrap n=m):
    (execOp ev (Opr dst (.convert 3 22 x) ty ps af gd)).run prog w= .ok (.value (int u64 m)) w:=by
  simp [execOp,hx,hm,go_sem]
theorem execS_q256 {n:Int}(hx:ev x= .int .i64 n)(hy:ev y= .int .i64 256)(h0:0≤n)(hw:IntKind.i64.wrap (n/256)=n/256):
    (execOp ev (Opr dst (.binOp .quo 3 x y 3) ty ps af gd)).run prog w= .ok (.value (.int .i64 (n/256))) w:=by
  have e:n.tdiv 256=n/256:=Int.tdiv_eq_ediv_of_nonneg h0;simp [execOp,hx,hy,hw,e,go_sem]
theorem execS_loadS {s:ByteArray}(hx:ev x= .pointer (some ⟨b,i,none⟩))(hc:w.cell? ⟨b,i,none⟩=some (.string s)):
    (execOp ev (Opr dst (.load 9 x) ty ps af gd)).run prog w= .ok (.value (.string s)) w:=by
  simp [execOp,hx,hc,go_sem]
theorem execS_loadW {n:Int}(hx:ev x= .pointer (some ⟨b,i,none⟩))(hc:w.cell? ⟨b,i,none⟩=some (int u64 n)):
    (execOp ev (Opr dst (.load 22 x) ty ps af gd)).run prog w= .ok (.value (int u64 n)) w:=by
  simp [execOp,hx,hc,go_sem]
theorem execS_allocS:(execOp ev (Opr dst (.alloc 9) ty ps af gd)).run prog w= .ok (.value (.pointer (some ⟨w.heap.size,0,none⟩))) (w.alloc (.cells #[.string ⟨#[]⟩] 9)):=by
  simp [execOp,go_sem]
theorem execS_storeS {s:ByteArray}{v:Value}(hx:ev x= .pointer (some ⟨b,0,none⟩))(hy:ev y= .string s)(hc:w.cell? ⟨b,0,none⟩=some v)(hf:w.frozen? ⟨b,0,none⟩=false):
    (execOp ev (Opr dst (.store 9 x y) ty ps af gd)).run prog w= .ok .skip (w.setCell ⟨b,0,none⟩ (.string s)):=by
  simp [execOp,hx,hy,hc,hf,go_sem]
theorem execS_slc1 {a:Int}(hx:ev x= .int .u8 a):
    (execOp ev (Opr dst (.buildSlice 35 1 #[(0,x)]) ty ps af gd)).run prog w= .ok (.value (.slice (some ⟨w.heap.size,0,none⟩) 1 1)) (w.alloc (.cells #[.int .u8 a] 5)):=by
  simp [execOp,hx,go_sem]
theorem execS_slc3 {a b c:Int}(hx:ev x= .int .u8 a)(hy:ev y= .int .u8 b)(hz:ev z= .int .u8 c):
    (execOp ev (Opr dst (.buildSlice 35 3 #[(0,x),(1,y),(2,z)]) ty ps af gd)).run prog w= .ok (.value (.slice (some ⟨w.heap.size,0,none⟩) 3 3)) (w.alloc (.cells #[.int .u8 a,.int .u8 b,.int .u8 c] 5)):=by
  simp [execOp,hx,hy,hz,go_sem]
theorem execS_str3 {a b c:ByteArray}(hx:ev x= .string a)(hy:ev y= .string b)(hz:ev z= .string c):
    (execOp ev (Opr dst (.buildSlice 176 3 #[(0,x),(1,y),(2,z)]) ty ps af gd)).run prog w= .ok (.value (.slice (some ⟨w.heap.size,0,none⟩) 3 3)) (w.alloc (.cells #[.string a,.string b,.string c] 9)):=by
  simp [execOp,hx,hy,hz,go_sem]
theorem execS_str5 {a b c d e:ByteArray}(hx:ev x= .string a)(hy:ev y= .string b)(hz:ev z= .string c)(h4:ev x4= .string d)(h5:ev x5= .string e):
    (execOp ev (Opr dst (.buildSlice 176 5 #[(0,x),(1,y),(2,z),(3,x4),(4,x5)]) ty ps af gd)).run prog w= .ok (.value (.slice (some ⟨w.heap.size,0,none⟩) 5 5)) (w.alloc (.cells #[.string a,.string b,.string c,.string d,.string e] 9)):=by
  simp [execOp,hx,hy,hz,h4,h5,go_sem]
theorem execS_conv {n:Nat}{xs:List Int}(hx:ev x= .slice (some ⟨b,0,none⟩) n n)(hl:xs.length=n)(hc:∀i,i<n→w.cell? ⟨b,i,none⟩=some (.int .u8 (lk xs i))):
    (execOp ev (Opr dst (.convert 35 9 x) ty ps af gd)).run prog w= .ok (.value (.string (strOfNums xs))) w:=by
  have hcv:=run_convert_bytes_arg (P:=prog) w 35 5 underlying35 underlying5 b 0 n n xs hl (fun i h=>by rw [Nat.zero_add];exact hc i h) 9 underlying9;simp [execOp,hx,hcv,go_sem]
end
section
variable {A:Act}{w W0:World}{dst:Option Tmp}{ty:TypeId}{ps:String}{af:Array Edge}{gd:Option (Nat×Bool)}{x y z x4 x5:Operand}{b i:Nat}
theorem doS_call1 {F:FuncId}{at_:Array TypeId}{u r:Value}(hcf:∀(args:Array Value) (w:World),(callFunc F args).run prog w= .ok (.enter F args) w)(hx:A.eval x=u)
    (hc:Cr F #[u] w r):
    Does prog (Opr dst (.call {callee:= .value (.func F),args:=#[x],argTypes:=at_}) ty ps af gd) A w fun v' w'=>v'=r∧Bl w w':=
  does_call (execS_call1 rfl hcf hx) (hc.mono fun _ _ ⟨h,h'⟩=>⟨r,h,rfl,h'⟩)
theorem doS_call2 {F:FuncId}{at_:Array TypeId}{u v r:Value}(hcf:∀(args:Array Value) (w:World),(callFunc F args).run prog w= .ok (.enter F args) w)(hx:A.eval x=u)(hy:A.eval y=v)
    (hc:Cr F #[u,v] w r):
    Does prog (Opr dst (.call {callee:= .value (.func F),args:=#[x,y],argTypes:=at_}) ty ps af gd) A w fun v' w'=>v'=r∧Bl w w':=
  does_call (execS_call2 rfl hcf hx hy) (hc.mono fun _ _ ⟨h,h'⟩=>⟨r,h,rfl,h'⟩)
theorem doS_move {u:Value}(hx:A.eval x=u):
    Does prog (Opr dst (.move x) ty ps af gd) A w fun v' w'=>v'=u∧Bl w w':=by
  have h:=execS_move (ev:=A.eval) (w:=w) (dst:=dst) (ty:=ty) (ps:=ps) (af:=af) (gd:=gd) hx;exact does_value h ⟨rfl,Below.refl _ _⟩
theorem doS_assign {u:Value}(hx:A.eval x=u):
    Does prog (Opr dst (.assign x) ty ps af gd) A w fun v' w'=>v'=u∧Bl w w':=by
  have h:=execS_assign (ev:=A.eval) (w:=w) (dst:=dst) (ty:=ty) (ps:=ps) (af:=af) (gd:=gd) hx;exact does_value h ⟨rfl,Below.refl _ _⟩
theorem doS_cat {a b:ByteArray}(hx:A.eval x= .string a)(hy:A.eval y= .string b)(hz:a.size+b.size≤9223372036854775807):
    Does prog (Opr dst (.binOp .add 9 x y 9) ty ps af gd) A w fun v' w'=>v'= .string (a++b)∧Bl w w':=by
  have h:=execS_cat (ev:=A.eval) (w:=w) (dst:=dst) (ty:=ty) (ps:=ps) (af:=af) (gd:=gd) hx hy hz;exact does_value h ⟨rfl,Below.refl _ _⟩
theorem doS_c8 {n m:Int}(hx:A.eval x= .int .i64 n)(hm:IntKind.u8.wrap n=m):
    Does prog (Opr dst (.convert 3 5 x) ty ps af gd) A w fun v' w'=>v'= .int .u8 m∧Bl w w':=by
  have h:=execS_c8 (ev:=A.eval) (w:=w) (dst:=dst) (ty:=ty) (ps:=ps) (af:=af) (gd:=gd) hx hm;exact does_value h ⟨rfl,Below.refl _ _⟩
theorem doS_c64 {n m:Int}(hx:A.eval x= .int .i64 n)(hm:IntKind.u64.wrap n=m):
    Does prog (Opr dst (.convert 3 22 x) ty ps af gd) A w fun v' w'=>v'=int u64 m∧Bl w w':=by
  have h:=execS_c64 (ev:=A.eval) (w:=w) (dst:=dst) (ty:=ty) (ps:=ps) (af:=af) (gd:=gd) hx hm;exact does_value h ⟨rfl,Below.refl _ _⟩
theorem doS_q256 {n:Int}(hx:A.eval x= .int .i64 n)(hy:A.eval y= .int .i64 256)(h0:0≤n)(hw:IntKind.i64.wrap (n/256)=n/256):
    Does prog (Opr dst (.binOp .quo 3 x y 3) ty ps af gd) A w fun v' w'=>v'= .int .i64 (n/256)∧Bl w w':=by
  have h:=execS_q256 (ev:=A.eval) (w:=w) (dst:=dst) (ty:=ty) (ps:=ps) (af:=af) (gd:=gd) hx hy h0 hw;exact does_value h ⟨rfl,Below.refl _ _⟩
theorem doS_loadS {s:ByteArray}(hx:A.eval x= .pointer (some ⟨b,i,none⟩))(hc:w.cell? ⟨b,i,none⟩=some (.string s)):
    Does prog (Opr dst (.load 9 x) ty ps af gd) A w fun v' w'=>v'= .string s∧Bl w w':=by
  have h:=execS_loadS (ev:=A.eval) (w:=w) (dst:=dst) (ty:=ty) (ps:=ps) (af:=af) (gd:=gd) hx hc;exact does_value h ⟨rfl,Below.refl _ _⟩
theorem doS_loadW {n:Int}(hx:A.eval x= .pointer (some ⟨b,i,none⟩))(hc:w.cell? ⟨b,i,none⟩=some (int u64 n)):
    Does prog (Opr dst (.load 22 x) ty ps af gd) A w fun v' w'=>v'=int u64 n∧Bl w w':=by
  have h:=execS_loadW (ev:=A.eval) (w:=w) (dst:=dst) (ty:=ty) (ps:=ps) (af:=af) (gd:=gd) hx hc;exact does_value h ⟨rfl,Below.refl _ _⟩
theorem doS_conv {n:Nat}{xs:List Int}(hx:A.eval x= .slice (some ⟨b,0,none⟩) n n)(hl:xs.length=n)(hc:∀i,i<n→w.cell? ⟨b,i,none⟩=some (.int .u8 (lk xs i))):
    Does prog (Opr dst (.convert 35 9 x) ty ps af gd) A w fun v' w'=>v'= .string (strOfNums xs)∧Bl w w':=by
  have h:=execS_conv (ev:=A.eval) (w:=w) (dst:=dst) (ty:=ty) (ps:=ps) (af:=af) (gd:=gd) hx hl hc;exact does_value h ⟨rfl,Below.refl _ _⟩
theorem doS_slc1 {a:Int}(hx:A.eval x= .int .u8 a):
    Does prog (Opr dst (.buildSlice 35 1 #[(0,x)]) ty ps af gd) A w fun v w'=>v= .slice (some ⟨w.heap.size,0,none⟩) 1 1∧w'=w.alloc (.cells #[.int .u8 a] 5):=by
  have h:=execS_slc1 (ev:=A.eval) (w:=w) (dst:=dst) (ty:=ty) (ps:=ps) (af:=af) (gd:=gd) hx;exact does_value h ⟨rfl,rfl⟩
theorem doS_slc3 {a b c:Int}(hx:A.eval x= .int .u8 a)(hy:A.eval y= .int .u8 b)(hz:A.eval z= .int .u8 c):
    Does prog (Opr dst (.buildSlice 35 3 #[(0,x),(1,y),(2,z)]) ty ps af gd) A w fun v w'=>v= .slice (some ⟨w.heap.size,0,none⟩) 3 3∧w'=w.alloc (.cells #[.int .u8 a,.int .u8 b,.int .u8 c] 5):=by
  have h:=execS_slc3 (ev:=A.eval) (w:=w) (dst:=dst) (ty:=ty) (ps:=ps) (af:=af) (gd:=gd) hx hy hz;exact does_value h ⟨rfl,rfl⟩
theorem doS_str3 {a b c:ByteArray}(hx:A.eval x= .string a)(hy:A.eval y= .string b)(hz:A.eval z= .string c):
    Does prog (Opr dst (.buildSlice 176 3 #[(0,x),(1,y),(2,z)]) ty ps af gd) A w fun v w'=>v= .slice (some ⟨w.heap.size,0,none⟩) 3 3∧w'=w.alloc (.cells #[.string a,.string b,.string c] 9):=by
  have h:=execS_str3 (ev:=A.eval) (w:=w) (dst:=dst) (ty:=ty) (ps:=ps) (af:=af) (gd:=gd) hx hy hz;exact does_value h ⟨rfl,rfl⟩
theorem doS_str5 {a b c d e:ByteArray}(hx:A.eval x= .string a)(hy:A.eval y= .string b)(hz:A.eval z= .string c)(h4:A.eval x4= .string d)(h5:A.eval x5= .string e):
    Does prog (Opr dst (.buildSlice 176 5 #[(0,x),(1,y),(2,z),(3,x4),(4,x5)]) ty ps af gd) A w fun v w'=>v= .slice (some ⟨w.heap.size,0,none⟩) 5 5∧w'=w.alloc (.cells #[.string a,.string b,.string c,.string d,.string e] 9):=by
  have h:=execS_str5 (ev:=A.eval) (w:=w) (dst:=dst) (ty:=ty) (ps:=ps) (af:=af) (gd:=gd) hx hy hz h4 h5;exact does_value h ⟨rfl,rfl⟩
theorem doS_new:Does prog (Opr dst (.alloc 9) ty ps af gd) A w fun v w'=>v= .pointer (some ⟨w.heap.size,0,none⟩)∧w'=w.alloc (.cells #[.string ⟨#[]⟩] 9):=by
  have h:=execS_allocS (ev:=A.eval) (w:=w) (dst:=dst) (ty:=ty) (ps:=ps) (af:=af) (gd:=gd);exact does_value h ⟨rfl,rfl⟩
theorem doS_put {s:ByteArray}(hx:A.eval x= .pointer (some ⟨b,0,none⟩))(hy:A.eval y= .string s)(hr:w.heap[b]? =some (.cells #[.string ⟨#[]⟩] 9)):
    Does prog (Opr dst (.store 9 x y) ty ps af gd) A w fun _ w'=>Turned b (.cells #[.string s] 9) w w':=by
  have hc:w.cell? ⟨b,0,none⟩=some (.string ⟨#[]⟩):=by simp [World.cell?,hr]
  have hf:w.frozen? ⟨b,0,none⟩=false:=by simp [World.frozen?,hr]
  refine does_skip (execS_storeS hx hy hc hf) ⟨rfl,rfl,rfl,by simp [World.setCell],?_,fun k hk=> ?_⟩
  · simp [World.setCell,Array.getElem?_modify,hr]
  · simp [World.setCell,Array.getElem?_modify,Ne.symm hk]
end
theorem block_cell {w:World}{b i:Nat}{cs:Array Value}{t:TypeId}{v:Value}(h:w.heap[b]? =some (.cells cs t))(hv:cs[i]? =some v):w.cell? ⟨b,i,none⟩=some v:=by
  rw [cell_of_row _ _ _ _ _ _ h];exact hv
def okM (msg tag:ByteArray)(n:Int):Prop:=1≤tag.size∧tag.size≤255∧1≤n∧n≤8160∧msg.size≤65535
end Go.Proofs.YtjhbckngdclleaaGreatDoor
