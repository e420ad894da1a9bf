import Derived.Test.YtjhbckngdclleaaGreatDoorMrg15
set_option linter.unusedVariables false
set_option maxRecDepth 100000
set_option maxHeartbeats 16000000
namespace Go.Proofs.YtjhbckngdclleaaGreatDoor
open Go.Proofs.Tryz Go.RowKit
open Go.Value (int)
open Go.IntKind (u64)
section
variable {ev:Operand→Value}{w:World}{dst:Option Tmp}{ty:TypeId}{ps:String}{af:Array Edge}{gd:Option (Nat×Bool)}{x y z x4 x5:Operand}{b i:Nat}
theorem execS_call1 {F:FuncId}{at_:Array TypeId}{u:Value}(hF:ev (.func F)= .func (.func F) #[] #[])(hcf:∀(args:Array Value) (w:World),(callFunc F args).run prog w= .ok (.enter F args) w)(hx:ev x=u):
    (execOp ev (Opr dst (.call {callee:= .value (.func F),args:=#[x],argTypes:=at_}) ty ps af gd)).run prog w= .ok (.enter F #[u]) w:=by
  simp [execOp,hx,hF,hcf,go_sem]
theorem execS_call2 {F:FuncId}{at_:Array TypeId}{u v:Value}(hF:ev (.func F)= .func (.func F) #[] #[])(hcf:∀(args:Array Value) (w:World),(callFunc F args).run prog w= .ok (.enter F args) w)(hx:ev x=u)(hy:ev y=v):
    (execOp ev (Opr dst (.call {callee:= .value (.func F),args:=#[x,y],argTypes:=at_}) ty ps af gd)).run prog w= .ok (.enter F #[u,v]) w:=by
  simp [execOp,hx,hy,hF,hcf,go_sem]
theorem execS_move {u:Value}(hx:ev x=u):
    (execOp ev (Opr dst (.move x) ty ps af gd)).run prog w= .ok (.value u) w:=by
  simp [execOp,hx,go_sem]
theorem execS_assign {v:Value}(hx:ev x=v):
    (execOp ev (Opr dst (.assign x) ty ps af gd)).run prog w= .ok (.value v) w:=by
  simp [execOp,hx,go_sem]
theorem execS_cat {a b:ByteArray}(hx:ev x= .string a)(hy:ev y= .string b)(hz:a.size+b.size≤9223372036854775807):
    (execOp ev (Opr dst (.binOp .add 9 x y 9) ty ps af gd)).run prog w= .ok (.value (.string (a++b))) w:=by
  have h: ¬ (9223372036854775807<a.size+b.size):=by omega
  simp [execOp,hx,hy,h,go_sem]
theorem execS_c8 {n m:Int}(hx:ev x= .int .i64 n)(hm:IntKind.u8.wrap n=m):
    (execOp ev (Opr dst (.convert 3 5 x) ty ps af gd)).run prog w= .ok (.value (.int .u8 m)) w:=by
  simp [execOp,hx,hm,go_sem]
theorem execS_c64 {n m:Int}(hx:ev x= .int .i64 n)(hm:IntKind.u64.wrap n=m):
    (execOp ev (Opr dst (.convert 3 22 x) ty ps af gd)).run prog w= .ok (.value (int u64 m)) w:=by
  simp [execOp,hx,hm,go_sem]
theorem execS_q256 {n:Int}(hx:ev x= .int .i64 n)(hy:ev y= .int .i64 256)(h0:0≤n)(hw:IntKind.i64.wrap (n/256)=n/256):
    (execOp ev (Opr dst (.binOp .quo 3 x y 3) ty ps af gd)).run prog w= .ok (.value (.int .i64 (n/256))) w:=by
  have e:n.tdiv 256=n/256:=Int.tdiv_eq_ediv_of_nonneg h0;simp [execOp,hx,hy,hw,e,go_sem]
theorem execS_loadS {s:ByteArray}(hx:ev x= .pointer (some ⟨b,i,none⟩))(hc:w.cell? ⟨b,i,none⟩=some (.string s)):
    (execOp ev (Opr dst (.load 9 x) ty ps af gd)).run prog w= .ok (.value (.string s)) w:=by
  simp [execOp,hx,hc,go_sem]
theorem execS_loadW {n:Int}(hx:ev x= .pointer (some ⟨b,i,none⟩))(hc:w.cell? ⟨b,i,none⟩=some (int u64 n)):
    (execOp ev (Opr dst (.load 22 x) ty ps af gd)).run prog w= .ok (.value (int u64 n)) w:=by
  simp [execOp,hx,hc,go_sem]
theorem execS_allocS:(execOp ev (Opr dst (.alloc 9) ty ps af gd)).run prog w= .ok (.value (.pointer (some ⟨w.heap.size,0,none⟩))) (w.alloc (.cells #[.string ⟨#[]⟩] 9)):=by
  simp [execOp,go_sem]
theorem execS_storeS {s:ByteArray}{v:Value}(hx:ev x= .pointer (some ⟨b,0,none⟩))(hy:ev y= .string s)(hc:w.cell? ⟨b,0,none⟩=some v)(hf:w.frozen? ⟨b,0,none⟩=false):
    (execOp ev (Opr dst (.store 9 x y) ty ps af gd)).run prog w= .ok .skip (w.setCell ⟨b,0,none⟩ (.string s)):=by
  simp [execOp,hx,hy,hc,hf,go_sem]
theorem execS_slc1 {a:Int}(hx:ev x= .int .u8 a):
    (execOp ev (Opr dst (.buildSlice 35 1 #[(0,x)]) ty ps af gd)).run prog w= .ok (.value (.slice (some ⟨w.heap.size,0,none⟩) 1 1)) (w.alloc (.cells #[.int .u8 a] 5)):=by
  simp [execOp,hx,go_sem]
theorem execS_slc3 {a b c:Int}(hx:ev x= .int .u8 a)(hy:ev y= .int .u8 b)(hz:ev z= .int .u8 c):
    (execOp ev (Opr dst (.buildSlice 35 3 #[(0,x),(1,y),(2,z)]) ty ps af gd)).run prog w= .ok (.value (.slice (some ⟨w.heap.size,0,none⟩) 3 3)) (w.alloc (.cells #[.int .u8 a,.int .u8 b,.int .u8 c] 5)):=by
  simp [execOp,hx,hy,hz,go_sem]
theorem execS_str3 {a b c:ByteArray}(hx:ev x= .string a)(hy:ev y= .string b)(hz:ev z= .string c):
    (execOp ev (Opr dst (.buildSlice 176 3 #[(0,x),(1,y),(2,z)]) ty ps af gd)).run prog w= .ok (.value (.slice (some ⟨w.heap.size,0,none⟩) 3 3)) (w.alloc (.cells #[.string a,.string b,.string c] 9)):=by
  simp [execOp,hx,hy,hz,go_sem]
theorem execS_str5 {a b c d e:ByteArray}(hx:ev x= .string a)(hy:ev y= .string b)(hz:ev z= .string c)(h4:ev x4= .string d)(h5:ev x5= .string e):
    (execOp ev (Opr dst (.buildSlice 176 5 #[(0,x),(1,y),(2,z),(3,x4),(4,x5)]) ty ps af gd)).run prog w= .ok (.value (.slice (some ⟨w.heap.size,0,none⟩) 5 5)) (w.alloc (.cells #[.string a,.string b,.string c,.string d,.string e] 9)):=by
  simp [execOp,hx,hy,hz,h4,h5,go_sem]
theorem execS_conv {n:Nat}{xs:List Int}(hx:ev x= .slice (some ⟨b,0,none⟩) n n)(hl:xs.length=n)(hc:∀i,i<n→w.cell? ⟨b,i,none⟩=some (.int .u8 (lk xs i))):
    (execOp ev (Opr dst (.convert 35 9 x) ty ps af gd)).run prog w= .ok (.value (.string (strOfNums xs))) w:=by
  have hcv:=run_convert_bytes_arg (P:=prog) w 35 5 underlying35 underlying5 b 0 n n xs hl (fun i h=>by rw [Nat.zero_add];exact hc i h) 9 underlying9;simp [execOp,hx,hcv,go_sem]
end
section
variable {A:Act}{w W0:World}{dst:Option Tmp}{ty:TypeId}{ps:String}{af:Array Edge}{gd:Option (Nat×Bool)}{x y z x4 x5:Operand}{b i:Nat}
theorem doS_call1 {F:FuncId}{at_:Array TypeId}{u r:Value}(hcf:∀(args:Array Value) (w:World),(callFunc F args).run prog w= .ok (.enter F args) w)(hx:A.eval x=u)
    (hc:Cr F #[u] w r):
    Does prog (Opr dst (.call {callee:= .value (.func F),args:=#[x],argTypes:=at_}) ty ps af gd) A w fun v' w'=>v'=r∧Bl w w':=
  does_call (execS_call1 rfl hcf hx) (hc.mono fun _ _ ⟨h,h'⟩=>⟨r,h,rfl,h'⟩)
theorem doS_call2 {F:FuncId}{at_:Array TypeId}{u v r:Value}(hcf:∀(args:Array Value) (w:World),(callFunc F args).run prog w= .ok (.enter F args) w)(hx:A.eval x=u)(hy:A.eval y=v)
    (hc:Cr F #[u,v] w r):
    Does prog (Opr dst (.call {callee:= .value (.func F),args:=#[x,y],argTypes:=at_}) ty ps af gd) A w fun v' w'=>v'=r∧Bl w w':=
  does_call (execS_call2 rfl hcf hx hy) (hc.mono fun _ _ ⟨h,h'⟩=>⟨r,h,rfl,h'⟩)
theorem doS_move {u:Value}(hx:A.eval x=u):
    Does prog (Opr dst (.move x) ty ps af gd) A w fun v' w'=>v'=u∧Bl w w':=by
  have h:=execS_move (ev:=A.eval) (w:=w) (dst:=dst) (ty:=ty) (ps:=ps) (af:=af) (gd:=gd) hx;exact does_value h ⟨rfl,Below.refl _ _⟩
theorem doS_assign {u:Value}(hx:A.eval x=u):
    Does prog (Opr dst (.assign x) ty ps af gd) A w fun v' w'=>v'=u∧Bl w w':=by
  have h:=execS_assign (ev:=A.eval) (w:=w) (dst:=dst) (ty:=ty) (ps:=ps) (af:=af) (gd:=gd) hx;exact does_value h ⟨rfl,Below.refl _ _⟩
theorem doS_cat {a b:ByteArray}(hx:A.eval x= .string a)(hy:A.eval y= .string b)(hz:a.size+b.size≤9223372036854775807):
    Does prog (Opr dst (.binOp .add 9 x y 9) ty ps af gd) A w fun v' w'=>v'= .string (a++b)∧Bl w w':=by
  have h:=execS_cat (ev:=A.eval) (w:=w) (dst:=dst) (ty:=ty) (ps:=ps) (af:=af) (gd:=gd) hx hy hz;exact does_value h ⟨rfl,Below.refl _ _⟩
theorem doS_c8 {n m:Int}(hx:A.eval x= .int .i64 n)(hm:IntKind.u8.wrap n=m):
    Does prog (Opr dst (.convert 3 5 x) ty ps af gd) A w fun v' w'=>v'= .int .u8 m∧Bl w w':=by
  have h:=execS_c8 (ev:=A.eval) (w:=w) (dst:=dst) (ty:=ty) (ps:=ps) (af:=af) (gd:=gd) hx hm;exact does_value h ⟨rfl,Below.refl _ _⟩
theorem doS_c64 {n m:Int}(hx:A.eval x= .int .i64 n)(hm:IntKind.u64.wrap n=m):
    Does prog (Opr dst (.convert 3 22 x) ty ps af gd) A w fun v' w'=>v'=int u64 m∧Bl w w':=by
  have h:=execS_c64 (ev:=A.eval) (w:=w) (dst:=dst) (ty:=ty) (ps:=ps) (af:=af) (gd:=gd) hx hm;exact does_value h ⟨rfl,Below.refl _ _⟩
theorem doS_q256 {n:Int}(hx:A.eval x= .int .i64 n)(hy:A.eval y= .int .i64 256)(h0:0≤n)(hw:IntKind.i64.wrap (n/256)=n/256):
    Does prog (Opr dst (.binOp .quo 3 x y 3) ty ps af gd) A w fun v' w'=>v'= .int .i64 (n/256)∧Bl w w':=by
  have h:=execS_q256 (ev:=A.eval) (w:=w) (dst:=dst) (ty:=ty) (ps:=ps) (af:=af) (gd:=gd) hx hy h0 hw;exact does_value h ⟨rfl,Below.refl _ _⟩
theorem doS_loadS {s:ByteArray}(hx:A.eval x= .pointer (some ⟨b,i,none⟩))(hc:w.cell? ⟨b,i,none⟩=some (.string s)):
    Does prog (Opr dst (.load 9 x) ty ps af gd) A w fun v' w'=>v'= .string s∧Bl w w':=by
  have h:=execS_loadS (ev:=A.eval) (w:=w) (dst:=dst) (ty:=ty) (ps:=ps) (af:=af) (gd:=gd) hx hc;exact does_value h ⟨rfl,Below.refl _ _⟩
theorem doS_loadW {n:Int}(hx:A.eval x= .pointer (some ⟨b,i,none⟩))(hc:w.cell? ⟨b,i,none⟩=some (int u64 n)):
    Does prog (Opr dst (.load 22 x) ty ps af gd) A w fun v' w'=>v'=int u64 n∧Bl w w':=by
  have h:=execS_loadW (ev:=A.eval) (w:=w) (dst:=dst) (ty:=ty) (ps:=ps) (af:=af) (gd:=gd) hx hc;exact does_value h ⟨rfl,Below.refl _ _⟩
theorem doS_conv {n:Nat}{xs:List Int}(hx:A.eval x= .slice (some ⟨b,0,none⟩) n n)(hl:xs.length=n)(hc:∀i,i<n→w.cell? ⟨b,i,none⟩=some (.int .u8 (lk xs i))):
    Does prog (Opr dst (.convert 35 9 x) ty ps af gd) A w fun v' w'=>v'= .string (strOfNums xs)∧Bl w w':=by
  have h:=execS_conv (ev:=A.eval) (w:=w) (dst:=dst) (ty:=ty) (ps:=ps) (af:=af) (gd:=gd) hx hl hc;exact does_value h ⟨rfl,Below.refl _ _⟩
theorem doS_slc1 {a:Int}(hx:A.eval x= .int .u8 a):
    Does prog (Opr dst (.buildSlice 35 1 #[(0,x)]) ty ps af gd) A w fun v w'=>v= .slice (some ⟨w.heap.size,0,none⟩) 1 1∧w'=w.alloc (.cells #[.int .u8 a] 5):=by
  have h:=execS_slc1 (ev:=A.eval) (w:=w) (dst:=dst) (ty:=ty) (ps:=ps) (af:=af) (gd:=gd) hx;exact does_value h ⟨rfl,rfl⟩
theorem doS_slc3 {a b c:Int}(hx:A.eval x= .int .u8 a)(hy:A.eval y= .int .u8 b)(hz:A.eval z= .int .u8 c):
    Does prog (Opr dst (.buildSlice 35 3 #[(0,x),(1,y),(2,z)]) ty ps af gd) A w fun v w'=>v= .slice (some ⟨w.heap.size,0,none⟩) 3 3∧w'=w.alloc (.cells #[.int .u8 a,.int .u8 b,.int .u8 c] 5):=by
  have h:=execS_slc3 (ev:=A.eval) (w:=w) (dst:=dst) (ty:=ty) (ps:=ps) (af:=af) (gd:=gd) hx hy hz;exact does_value h ⟨rfl,rfl⟩
theorem doS_str3 {a b c:ByteArray}(hx:A.eval x= .string a)(hy:A.eval y= .string b)(hz:A.eval z= .string c):
    Does prog (Opr dst (.buildSlice 176 3 #[(0,x),(1,y),(2,z)]) ty ps af gd) A w fun v w'=>v= .slice (some ⟨w.heap.size,0,none⟩) 3 3∧w'=w.alloc (.cells #[.string a,.string b,.string c] 9):=by
  have h:=execS_str3 (ev:=A.eval) (w:=w) (dst:=dst) (ty:=ty) (ps:=ps) (af:=af) (gd:=gd) hx hy hz;exact does_value h ⟨rfl,rfl⟩
theorem doS_str5 {a b c d e:ByteArray}(hx:A.eval x= .string a)(hy:A.eval y= .string b)(hz:A.eval z= .string c)(h4:A.eval x4= .string d)(h5:A.eval x5= .string e):
    Does prog (Opr dst (.buildSlice 176 5 #[(0,x),(1,y),(2,z),(3,x4),(4,x5)]) ty ps af gd) A w fun v w'=>v= .slice (some ⟨w.heap.size,0,none⟩) 5 5∧w'=w.alloc (.cells #[.string a,.string b,.string c,.string d,.string e] 9):=by
  have h:=execS_str5 (ev:=A.eval) (w:=w) (dst:=dst) (ty:=ty) (ps:=ps) (af:=af) (gd:=gd) hx hy hz h4 h5;exact does_value h ⟨rfl,rfl⟩
theorem doS_new:Does prog (Opr dst (.alloc 9) ty ps af gd) A w fun v w'=>v= .pointer (some ⟨w.heap.size,0,none⟩)∧w'=w.alloc (.cells #[.string ⟨#[]⟩] 9):=by
  have h:=execS_allocS (ev:=A.eval) (w:=w) (dst:=dst) (ty:=ty) (ps:=ps) (af:=af) (gd:=gd);exact does_value h ⟨rfl,rfl⟩
theorem doS_put {s:ByteArray}(hx:A.eval x= .pointer (some ⟨b,0,none⟩))(hy:A.eval y= .string s)(hr:w.heap[b]? =some (.cells #[.string ⟨#[]⟩] 9)):
    Does prog (Opr dst (.store 9 x y) ty ps af gd) A w fun _ w'=>Turned b (.cells #[.string s] 9) w w':=by
  have hc:w.cell? ⟨b,0,none⟩=some (.string ⟨#[]⟩):=by simp [World.cell?,hr]
  have hf:w.frozen? ⟨b,0,none⟩=false:=by simp [World.frozen?,hr]
  refine does_skip (execS_storeS hx hy hc hf) ⟨rfl,rfl,rfl,by simp [World.setCell],?_,fun k hk=> ?_⟩
  · simp [World.setCell,Array.getElem?_modify,hr]
  · simp [World.setCell,Array.getElem?_modify,Ne.symm hk]
end
theorem block_cell {w:World}{b i:Nat}{cs:Array Value}{t:TypeId}{v:Value}(h:w.heap[b]? =some (.cells cs t))(hv:cs[i]? =some v):w.cell? ⟨b,i,none⟩=some v:=by
  rw [cell_of_row _ _ _ _ _ _ h];exact hv
def okM (msg tag:ByteArray)(n:Int):Prop:=1≤tag.size∧tag.size≤255∧1≤n∧n≤8160∧msg.size≤65535
theorem exmS_no (msg tag:ByteArray)(n:Int)(w:World)(h: ¬ okM msg tag n):
    Cr 159 #[.string msg,.string tag,.int .i64 n] w (.tuple #[.string ⟨#[]⟩,.bool false]):=by
  by_cases h1:tag.size<1
  · have g1:(tag.size:Int)<1:=by omega
    go_enter func159,ntmps159;go_wp2;go_ret2;exact⟨rfl,Below.refl _ _⟩
  · have g1 : ¬ (tag.size:Int)<1:=by omega
    by_cases h2:255<tag.size
    · have g2:(255:Int)<(tag.size:Int):=by omega
      go_enter func159,ntmps159;go_wp2;go_ret2;exact⟨rfl,Below.refl _ _⟩
    · have g2: ¬ (255:Int)<(tag.size:Int):=by omega
      by_cases h3:n<1
      · go_enter func159,ntmps159;go_wp2;go_ret2;exact⟨rfl,Below.refl _ _⟩
      · by_cases h4:8160<n
        · go_enter func159,ntmps159;go_wp2;go_ret2;exact⟨rfl,Below.refl _ _⟩
        · by_cases h5:65535<msg.size
          · have g5:(65535:Int)<(msg.size:Int):=by omega
            go_enter func159,ntmps159;go_wp2;go_ret2;exact⟨rfl,Below.refl _ _⟩
          · exact absurd ⟨by omega,by omega,by omega,by omega,by omega⟩ h
theorem cf_long (args:Array Value)(w:World):(callFunc 52 args).run prog w= .ok (.enter 52 args) w:=by kernel_rfl
theorem cf_both (args:Array Value)(w:World):(callFunc 191 args).run prog w= .ok (.enter 191 args) w:=by kernel_rfl
theorem cf_sha (args:Array Value)(w:World):(callFunc 99 args).run prog w= .ok (.enter 99 args) w:=by kernel_rfl
theorem conv1 {w:World}{b:Nat}{t:TypeId}{a:Int}(h:w.heap[b]? =some (.cells #[.int .u8 a] t))(i:Nat)(hi:i<1):w.cell? ⟨b,i,none⟩=some (.int .u8 (lk [a] i)):=by
  obtain rfl:i=0:=by omega
  exact block_cell h rfl
theorem conv3 {w:World}{b:Nat}{t:TypeId}{a c d:Int}(h:w.heap[b]? =some (.cells #[.int .u8 a,.int .u8 c,.int .u8 d] t))(i:Nat)(hi:i<3):w.cell? ⟨b,i,none⟩=some (.int .u8 (lk [a,c,d] i)):=by
  match i,hi with
  |0,_=>exact block_cell h rfl
  |1,_=>exact block_cell h rfl
  |2,_=>exact block_cell h rfl
theorem exmS_yes (msg tag:ByteArray)(n:Nat)(w:World)(h:okM msg tag n):
    Cr 159 #[.string msg,.string tag,.int .i64 n] w (.tuple #[.string (strOfNums (expM (byt msg) (byt tag) n)),.bool true]):=by
  obtain⟨E,hE0⟩:∃E,Hid (E=expM (byt msg) (byt tag) n):=⟨_,rfl⟩;rw [←hE0.out];obtain⟨h1,h2,h3,h4,h5⟩:=h;have g1: ¬ (tag.size:Int)<1:=by omega
  have g2: ¬ (255:Int)<(tag.size:Int):=by omega
  have g3: ¬ (n:Int)<1:=by omega
  have g4: ¬ (8160:Int)<(n:Int):=by omega
  have g5: ¬ (65535:Int)<(msg.size:Int):=by omega
  have hcv:=run_convert_bytes_arg (P:=prog) (w.alloc (.cells #[.int .u8 (tag.size:Int)] 5)) 35 5 underlying35 underlying5 w.heap.size 0 1 1 [(tag.size:Int)] rfl (fun i h=>by
    obtain rfl:i=0:=by omega
    rw [cell_of_row _ _ _ _ _ _ (heap_alloc_new w _)];rfl) 9 underlying9
  have e8:IntKind.u8.wrap (tag.size:Int)=(tag.size:Int):=u8_in _ (by omega) (by omega);have hzT:(strOfNums [(tag.size:Int)]).size=1:=by rw [strOfNums_size];rfl
  go_enter func159,ntmps159;go_wp2;obtain⟨T,hT⟩:∃T,T=tag++strOfNums [(tag.size:Int)]:=⟨_,rfl⟩;rw [←hT];have hTs:T.size=tag.size+1:=by rw [hT,ByteArray.size_append,hzT]
  have hTb:Hid (byt T=mTag (byt tag)):=by
    simp only [Hid];rw [hT,byt_append,mTag,byt_length,byt_str _ (fun x hx=>by simp at hx;omega)]
  have hb1:Bl w (w.alloc (.cells #[.int .u8 (tag.size:Int)] 5)):=(Below.refl _ _).alloc (Nat.le_refl _) _;generalize hW1:w.alloc (.cells #[.int .u8 (tag.size:Int)] 5)=W1 at*;clear hcv hT hzT e8 hW1;have Z64:∀w:World,Cr 52 #[.int .i64 64,.string ⟨#[0]⟩] w (.string (strOfNums (List.replicate 64 0))):=fun w=>(lonZ_any 64 (by omega) w).mono fun e w' ⟨h,h'⟩=>⟨h,h'▸Below.refl _ _⟩
  have Z32:∀w:World,Calls prog 52 #[.int .i64 32,.string ⟨#[0]⟩] w fun e w'=>e= .returned (.string (strOfNums (List.replicate 32 0)))∧w=w':=fun w=>lonZ_any 32 (by omega) w
  have ea:IntKind.u8.wrap ((n:Int)/256)=(n:Int)/256:=u8_in _ (by omega) (by omega);have ew:IntKind.i64.wrap ((n:Int)/256)=(n:Int)/256:=i64_in _ (by omega) (by omega);have ec:((n/256:Nat):Int)=(n:Int)/256:=by omega
  have ed:(n:Int).tdiv 256=(n:Int)/256:=Int.tdiv_eq_ediv_of_nonneg (by omega);have eb:IntKind.u8.wrap (n:Int)=((n%256:Nat):Int):=by rw [IntKind.wrap_u8'];omega
  have hn0:(0:Int)≤(n:Int):=by omega
  have hMs:(strOfNums [(n:Int)/256,((n%256:Nat):Int),0]).size=3:=by rw [strOfNums_size];rfl
  have hMb:Hid (byt (strOfNums [(n:Int)/256,((n%256:Nat):Int),0])= [((n/256:Nat):Int),((n%256:Nat):Int),0]):=by
    simp only [Hid];rw [ec,byt_str _ (fun x hx=>by simp at hx;omega)]
  have hz0:(strOfNums (List.replicate 64 0)).size=64:=by rw [strOfNums_size,List.length_replicate]
  have hz1:(strOfNums (List.replicate 32 0)).size=32:=by rw [strOfNums_size,List.length_replicate]
  obtain⟨F,hF⟩:∃F,F=mFirst (byt msg) (byt tag) n:=⟨_,rfl⟩
  have SF:∀w,Cr 99 #[.string (strOfNums (List.replicate 64 0)++msg++strOfNums [(n:Int)/256,((n%256:Nat):Int),0]++T)] w (.string (strOfNums F)):=fun w=>by
    have:=shaS_any (strOfNums (List.replicate 64 0)++msg++strOfNums [(n:Int)/256,((n%256:Nat):Int),0]++T) w (by simp only [ByteArray.size_append];omega);rwa [byt_append,byt_append,byt_append,byt_str _ (rep_lt 64),hMb.out,hTb.out,←mFirst,←hF] at this
  have hFl:F.length=32:=by rw [hF];exact mFirst_length _ _ _
  have hFb:∀x∈F,0≤x∧x<256:=by rw [hF];exact mFirst_lt _ _ _
  have hE:Hid (E=(mOut F (mTag (byt tag)) ((n+31)/32)).take n):=by simp only [Hid];rw [hE0.out,expM,hF]
  clear ec hMb hF hE0;generalize ((n%256:Nat):Int)=n2 at*;generalize strOfNums (List.replicate 64 0)=Z at*;have q1:Z.size+msg.size≤9223372036854775807:=by omega
  have q2:(Z++msg).size+(strOfNums [(n:Int)/256,n2,0]).size≤9223372036854775807:=by rw [ByteArray.size_append];omega
  have q3:(Z++msg++strOfNums [(n:Int)/256,n2,0]).size+T.size≤9223372036854775807:=by rw [ByteArray.size_append,ByteArray.size_append];omega
  generalize mTag (byt tag)=Tl at*
  refine pool_list [.val (.string Z),
      .val (.string msg),
      .val (.string (Z++msg)),
      .val (.int .i64 n),
      .val (.int .i64 ((n:Int)/256)),
      .val (.int .u8 ((n:Int)/256)),
      .val (.int .i64 n),
      .val (.int .u8 n2),
      .new (.cells #[.int .u8 ((n:Int)/256),.int .u8 n2,.int .u8 0] 5) (.cells #[.int .u8 ((n:Int)/256),.int .u8 n2,.int .u8 0] 5) 1003,
      .val (.string (strOfNums [(n:Int)/256,n2,0])),
      .val (.string (Z++msg++strOfNums [(n:Int)/256,n2,0])),
      .val (.string T),
      .val (.string (Z++msg++strOfNums [(n:Int)/256,n2,0]++T)),
      .val (.string (strOfNums F)),
      .val (.string (strOfNums F))] [[],[0],[41,42],[2],[44],[45],[2],[47],[46,48],[49],[43,50],[8],[51,52],[53],[54]] (fun f=> [(some 41,.string Z),(some 42,.string msg),(some 43,.string (Z++msg)),(some 44,.int .i64 n),(some 45,.int .i64 ((n:Int)/256)),(some 46,.int .u8 ((n:Int)/256)),(some 47,.int .i64 n),(some 48,.int .u8 n2),(some 49,.slice (some ⟨f 8,0,none⟩) 3 3),(some 50,.string (strOfNums [(n:Int)/256,n2,0])),(some 51,.string (Z++msg++strOfNums [(n:Int)/256,n2,0])),(some 52,.string T),(some 53,.string (Z++msg++strOfNums [(n:Int)/256,n2,0]++T)),(some 54,.string (strOfNums F)),(some 9,.string (strOfNums F))]) (by kernel_rfl) (by kernel_rfl) (by kernel_rfl) (by kernel_rfl) (fun _=>by kernel_rfl) ?_ ?_
  · intro ix hix
    match ix,hix with
    |0,_=>exact obv [] rfl rfl (fun A w _ hB=>doS_call2 cf_long rfl rfl (Z64 w))
    |1,_=>exact obv [(0,.string msg)] rfl rfl (fun A w ⟨e0,_⟩ hB=>doS_move e0)
    |2,_=>exact obv [(41,.string Z),(42,.string msg)] rfl rfl (fun A w ⟨e0,e1,_⟩ hB=>doS_cat e0 e1 q1)
    |3,_=>exact obv [(2,.int .i64 n)] rfl rfl (fun A w ⟨e0,_⟩ hB=>doS_move e0)
    |4,_=>exact obv [(44,.int .i64 n)] rfl rfl (fun A w ⟨e0,_⟩ hB=>doS_q256 e0 rfl hn0 ew)
    |5,_=>exact obv [(45,.int .i64 ((n:Int)/256))] rfl rfl (fun A w ⟨e0,_⟩ hB=>doS_c8 e0 ea)
    |6,_=>exact obv [(2,.int .i64 n)] rfl rfl (fun A w ⟨e0,_⟩ hB=>doS_move e0)
    |7,_=>exact obv [(47,.int .i64 n)] rfl rfl (fun A w ⟨e0,_⟩ hB=>doS_c8 e0 eb)
    |8,_=>exact ob_slc 3 [(46,.int .u8 ((n:Int)/256)),(48,.int .u8 n2)] rfl rfl (fun _=>by kernel_rfl) (fun A w ⟨e0,e1,_⟩=>doS_slc3 e0 e1 rfl)
    |9,_=>exact ob_use 49 8 1003 (.cells #[.int .u8 ((n:Int)/256),.int .u8 n2,.int .u8 0] 5) (fun f=> [(49,.slice (some ⟨f 8,0,none⟩) 3 3)]) rfl rfl (by decide) (by kernel_rfl) rfl (fun _=>by kernel_rfl) (fun f A w ⟨e0,_⟩ hB hr=>doS_conv e0 rfl (fun i h=>conv3 hr i h))
    |10,_=>exact obv [(43,.string (Z++msg)),(50,.string (strOfNums [(n:Int)/256,n2,0]))] rfl rfl (fun A w ⟨e0,e1,_⟩ hB=>doS_cat e0 e1 q2)
    |11,_=>exact obv [(8,.string T)] rfl rfl (fun A w ⟨e0,_⟩ hB=>doS_move e0)
    |12,_=>exact obv [(51,.string (Z++msg++strOfNums [(n:Int)/256,n2,0])),(52,.string T)] rfl rfl (fun A w ⟨e0,e1,_⟩ hB=>doS_cat e0 e1 q3)
    |13,_=>exact obv [(53,.string (Z++msg++strOfNums [(n:Int)/256,n2,0]++T))] rfl rfl (fun A w ⟨e0,_⟩ hB=>doS_call1 cf_sha e0 (SF w))
    |14,_=>exact obv [(54,.string (strOfNums F))] rfl rfl (fun A w ⟨e0,_⟩ hB=>doS_assign e0)
    |ix+15,h=>exact absurd h (by simp)
  intro f W2 hb2 _ _;have hbW:Bl w W2:=hb1.trans ((Below.refl _ W1).drew.trans hb2|>.mono hb1.size);simp only [puts,List.foldl,Act.put,List.setIfInBounds_toArray,List.set_cons_zero,List.set_cons_succ];have hFs:(strOfNums F).size=32:=by rw [strOfNums_size,hFl]
  clear SF hb1 hb2 hz0 q1 q2 q3 hMs;go_wp2_with fail;refine(Z32 _).mono ?_;rintro e w' ⟨rfl,rfl⟩;clear Z32 Z64;go_wp2
  go_loopw [10,11,12] (fun lv ov i wr=>∃k:Nat,32*k≤n+31∧i= .int .i64 ((k:Int)+1)∧lv= .string (strOfNums (mBlk F Tl k))∧ov= .string (strOfNums (mOut F Tl k))∧Bl w wr) (fun _ _ i _=>300-(intOf i).toNat)
  case atStart=>exact ⟨0,by omega,rfl,rfl,rfl,hbW⟩
  case round=>
    clear hbW;obtain⟨k,hkn,rfl,rfl,rfl,hbl⟩:=hrel;have hzo:(strOfNums (mOut F Tl k)).size=32*k:=by rw [strOfNums_size,mOut_length]
    have hzb:(strOfNums (mBlk F Tl k)).size=32:=by rw [strOfNums_size,mBlk_length]
    by_cases hlt:32*k<n
    · have hk255:k<255:=by omega
      have B:=fun w=>bothS_any (strOfNums F) (strOfNums (mBlk F Tl k)) w (by omega) (by omega)
      have hXs:(strOfNums (xorB (byt (strOfNums F)) (byt (strOfNums (mBlk F Tl k))))).size=32:=by rw [strOfNums_size,xorB_length,byt_length,byt_length];omega
      have hz1:(strOfNums [(k:Int)+1]).size=1:=by rw [strOfNums_size];rfl
      have hS:Hid (shaF (byt (strOfNums (xorB (byt (strOfNums F)) (byt (strOfNums (mBlk F Tl k))))++strOfNums [(k:Int)+1]++T))=mBlk F Tl (k+1)):=by
        simp only [Hid];rw [byt_append,byt_append,byt_str _ hFb,byt_str _ (mBlk_lt _ _ _),byt_str _ (xorB_lt _ _ hFb (mBlk_lt _ _ _)),byt_one k hk255,hTb.out,mBlk]
      have ho1:Hid (strOfNums (mOut F Tl k)++strOfNums (mBlk F Tl (k+1))=strOfNums (mOut F Tl (k+1))):=by
        simp only [Hid];rw [str_append',mOut]
      have hz2:(strOfNums (mBlk F Tl (k+1))).size=32:=by rw [strOfNums_size,mBlk_length]
      have e8:IntKind.u8.wrap ((k:Int)+1)=(k:Int)+1:=u8_in _ (by omega) (by omega);generalize strOfNums (xorB (byt (strOfNums F)) (byt (strOfNums (mBlk F Tl k))))=X at*
      have SB:∀w,Cr 99 #[.string (X++strOfNums [(k:Int)+1]++T)] w (.string (strOfNums (mBlk F Tl (k+1)))):=fun w=>by
        have:=shaS_any (X++strOfNums [(k:Int)+1]++T) w (by simp only [ByteArray.size_append];omega);rwa [hS.out] at this
      have q1:X.size+(strOfNums [(k:Int)+1]).size≤9223372036854775807:=by omega
      have q2:(X++strOfNums [(k:Int)+1]).size+T.size≤9223372036854775807:=by rw [ByteArray.size_append];omega
      clear hS;have hsr:=hbl.size;go_wp2
      refine pool_list [.val (.string (strOfNums F)),
          .val (.string (strOfNums (mBlk F Tl k))),
          .val (.string X),
          .val (.int .i64 ((k:Int)+1)),
          .val (.int .u8 ((k:Int)+1)),
          .new (.cells #[.int .u8 ((k:Int)+1)] 5) (.cells #[.int .u8 ((k:Int)+1)] 5) 1001,
          .val (.string (strOfNums [(k:Int)+1])),
          .val (.string (X++(strOfNums [(k:Int)+1]))),
          .val (.string T),
          .val (.string (X++(strOfNums [(k:Int)+1])++T)),
          .val (.string (strOfNums (mBlk F Tl (k+1)))),
          .val (.string (strOfNums (mBlk F Tl (k+1))))] [[9],[10],[62,63],[12],[65],[66],[67],[64,68],[8],[69,70],[71],[72]] (fun f=> [(some 62,.string (strOfNums F)),(some 63,.string (strOfNums (mBlk F Tl k))),(some 64,.string X),(some 65,.int .i64 ((k:Int)+1)),(some 66,.int .u8 ((k:Int)+1)),(some 67,.slice (some ⟨f 5,0,none⟩) 1 1),(some 68,.string (strOfNums [(k:Int)+1])),(some 69,.string (X++(strOfNums [(k:Int)+1]))),(some 70,.string T),(some 71,.string (X++(strOfNums [(k:Int)+1])++T)),(some 72,.string (strOfNums (mBlk F Tl (k+1)))),(some 10,.string (strOfNums (mBlk F Tl (k+1))))]) (by kernel_rfl) (by kernel_rfl) (by kernel_rfl) (by kernel_rfl) (fun _=>by kernel_rfl) ?_ ?_
      · intro ix hix
        match ix,hix with
        |0,_=>exact obv [(9,.string (strOfNums F))] rfl rfl (fun A w ⟨e0,_⟩ hB=>doS_move e0)
        |1,_=>exact obv [(10,.string (strOfNums (mBlk F Tl k)))] rfl rfl (fun A w ⟨e0,_⟩ hB=>doS_move e0)
        |2,_=>exact obv [(62,.string (strOfNums F)),(63,.string (strOfNums (mBlk F Tl k)))] rfl rfl (fun A w ⟨e0,e1,_⟩ hB=>doS_call2 cf_both e0 e1 (B w))
        |3,_=>exact obv [(12,.int .i64 ((k:Int)+1))] rfl rfl (fun A w ⟨e0,_⟩ hB=>doS_move e0)
        |4,_=>exact obv [(65,.int .i64 ((k:Int)+1))] rfl rfl (fun A w ⟨e0,_⟩ hB=>doS_c8 e0 e8)
        |5,_=>exact ob_slc 1 [(66,.int .u8 ((k:Int)+1))] rfl rfl (fun _=>by kernel_rfl) (fun A w ⟨e0,_⟩=>doS_slc1 e0)
        |6,_=>exact ob_use 67 5 1001 (.cells #[.int .u8 ((k:Int)+1)] 5) (fun f=> [(67,.slice (some ⟨f 5,0,none⟩) 1 1)]) rfl rfl (by decide) (by kernel_rfl) rfl (fun _=>by kernel_rfl) (fun f A w ⟨e0,_⟩ hB hr=>doS_conv e0 rfl (fun i h=>conv1 hr i h))
        |7,_=>exact obv [(64,.string X),(68,.string (strOfNums [(k:Int)+1]))] rfl rfl (fun A w ⟨e0,e1,_⟩ hB=>doS_cat e0 e1 q1)
        |8,_=>exact obv [(8,.string T)] rfl rfl (fun A w ⟨e0,_⟩ hB=>doS_move e0)
        |9,_=>exact obv [(69,.string (X++(strOfNums [(k:Int)+1]))),(70,.string T)] rfl rfl (fun A w ⟨e0,e1,_⟩ hB=>doS_cat e0 e1 q2)
        |10,_=>exact obv [(71,.string (X++(strOfNums [(k:Int)+1])++T))] rfl rfl (fun A w ⟨e0,_⟩ hB=>doS_call1 cf_sha e0 (SB w))
        |11,_=>exact obv [(72,.string (strOfNums (mBlk F Tl (k+1))))] rfl rfl (fun A w ⟨e0,_⟩ hB=>doS_assign e0)
        |ix+12,h=>exact absurd h (by simp)
      intro f W3 hb3 _ _;have R2:Bl w W3:=hbl.trans ((Below.refl _ wr).drew.trans hb3|>.mono hsr);simp only [puts,List.foldl,Act.put,List.setIfInBounds_toArray,List.set_cons_zero,List.set_cons_succ];clear hb3 B SB q1 q2;go_wp2;go_roundw
      case rel=>
        have R:Value.string (strOfNums (mOut F Tl k)++strOfNums (mBlk F Tl (k+1)))=Value.string (strOfNums (mOut F Tl (k+1))):=by rw [ho1.out]
        first
          |exact ⟨k+1,by omega,by go_num,rfl,R,R2⟩
          |((repeat apply Exists.intro);exact⟨⟨k+1,by omega,by go_num,rfl,R,R2⟩,rfl⟩)
      case measure=>simp [intOf];omega
    · have hkk:k=(n+31)/32:=by omega
      have hres:Hid ((strOfNums (mOut F Tl k)).extract 0 n=strOfNums E):=by
        simp only [Hid];rw [str_take,hE.out,←hkk]
      clear hkk;go_wp2;go_ret2;refine⟨?_,hbl⟩;show Ending.returned (.tuple #[.string ((strOfNums (mOut F Tl k)).extract 0 n),.bool true])=_;rw [hres.out]
theorem red_bit0 (q v j m r:Nat)(hj:j<8)(hr:r=(q*2^(8-(j+1))+v/2^(j+1))%m)(h:v/2^j%2=0):(r+r)%m=(q*2^(8-j)+v/2^j)%m:=by
  have e1:=shr_succ v j;rw [h] at e1;have e2:8-j=8-(j+1)+1:=by omega
  rw [e1,e2,hr];generalize 8-(j+1)=k;generalize v/2^(j+1)=z;rw [←Nat.add_mod,Nat.pow_succ];congr 1
  grobner
theorem red_bit1 (q v j m r:Nat)(hj:j<8)(hr:r=(q*2^(8-(j+1))+v/2^(j+1))%m)(h:v/2^j%2=1):((r+r)%m+1%m)%m=(q*2^(8-j)+v/2^j)%m:=by
  have e1:=shr_succ v j;rw [h] at e1;have e2:8-j=8-(j+1)+1:=by omega
  rw [e1,e2,hr];generalize 8-(j+1)=k;generalize v/2^(j+1)=z;rw [←Nat.add_mod,←Nat.mod_add_mod,←Nat.add_mod,Nat.mod_add_mod,Nat.pow_succ];congr 1
  grobner
theorem redS_any (s:ByteArray)(m:Nat)(w:World)(hs:s.size≤65535)(hm:m<18446744073709551616)(h0:m≠0):
    Calls prog 160 #[.string s,int u64 m] w fun e w'=>e= .returned (int u64 (numL (byt s)%m:Nat))∧w=w':=by
  obtain⟨c,hc⟩:∃c,Hid (c=numL (byt s)%m):=⟨_,rfl⟩;rw [←hc.out];have z0:((m:Int)==0)=false:=by simp;omega
  have z1: ¬ ((65535:Int)<(s.size:Int)):=by omega
  go_enter func160,ntmps160;go_wp2
  go_loop [5,6] (fun rv iv=>∃(k r:Nat),k≤s.size∧r<m∧iv= .int .i64 (k:Int)∧rv=int u64 (r:Int)∧Hid (r=numL ((byt s).take k)%m)) (fun _ i=>s.size-(intOf i).toNat)
  case atStart=>exact ⟨0,0,by omega,by omega,rfl,rfl,by simp [Hid,numL]⟩
  case round=>
    obtain⟨k,r0,hk,hr0m,rfl,rfl,hr0⟩:=hrel;by_cases hlt:k<s.size
    · obtain⟨q,hq⟩:∃q,Hid (q=numL ((byt s).take k)):=⟨_,rfl⟩;have hn:Hid (numL ((byt s).take (k+1))=q*256+s[k].toNat):=by simp only [Hid];rw [hq.out,numL_take s k hlt]
      rw [←hq.out] at hr0;have hv:=s[k].toNat_lt;go_wp2
      go_loop [5,7] (fun rv jv=>∃(j:Nat) (x:Int) (r:Nat),x=(j:Int)-1∧j≤8∧r<m∧jv= .int .i64 x∧rv=int u64 (r:Int)∧Hid (r=(q*2^(8-j)+s[k].toNat/2^j)%m)) (fun _ i=>(intOf i+1).toNat)
      case atStart=>
        refine⟨8,7,r0,rfl,by omega,hr0m,rfl,rfl,?_⟩;simp only [Hid];rw [hr0.out,Nat.div_eq_of_lt (show s[k].toNat<2^8 by omega)];simp
      case round=>
        obtain⟨j,x,r,hx,hj,hrm,rfl,rfl,hr⟩:=hrel;rcases j with _|j
        · have hneg: ¬ ((0:Int)≤x):=by omega
          clear hx;go_wp2;go_round
          case rel=>
            have R:Hid (r=numL ((byt s).take (k+1))%m):=by simp only [Hid];rw [hn.out,hr.out];simp
            exact⟨k+1,r,by omega,hrm,by go_num,rfl,R⟩
          case measure=>simp [intOf];omega
        · obtain rfl:x=(j:Int):=by omega
          clear hx;have hd:=Nat.mod_lt (r+r) (show m>0 by omega);have hd2:=Nat.mod_lt ((r+r)%m+1%m) (show m>0 by omega);have hm0:Hid (s[k].toNat/2^j%2=0→(r+r)%m=(q*2^(8-j)+s[k].toNat/2^j)%m):=red_bit0 q s[k].toNat j m r (by omega) hr.out;have hm1:Hid (s[k].toNat/2^j%2=1→((r+r)%m+1%m)%m=(q*2^(8-j)+s[k].toNat/2^j)%m):=red_bit1 q s[k].toNat j m r (by omega) hr.out;by_cases hbit:s[k].toNat/2^j%2=1
          · have ht:=bit1 _ s[k].toNat j rfl hbit;have hm1':=hm1.out hbit;clear hm0 hm1 hbit;go_wp2_with fail;refine(l2add_any r r m _ hrm hrm hm).mono ?_;rintro e w' ⟨rfl,rfl⟩;have L:=fun w=>l2add_int ((r+r)%m:Nat) ((1:Int)%(m:Int)) ((r+r)%m) (1%m) m rfl (by simp) w hd (Nat.mod_lt _ (by omega)) hm
            generalize (r+r)%m=d at*;generalize (d+1%m)%m=d2 at*;have hm1'':Hid (d2=(q*2^(8-j)+s[k].toNat/2^j)%m):=hm1';clear hm1' hd;go_wp2_with fail;refine(L _).mono ?_;rintro e w' ⟨rfl,rfl⟩;clear L;go_wp2;go_round
            case rel=>exact ⟨j,(j:Int)-1,d2,rfl,by omega,hd2,rfl,rfl,hm1''⟩
            case measure=>simp [intOf]
          · have hb0:s[k].toNat/2^j%2=0:=by omega
            have ht:=bit0 _ s[k].toNat j rfl hb0;have hm0':=hm0.out hb0;clear hm0 hm1 hbit hb0 hd2;go_wp2_with fail;refine(l2add_any r r m _ hrm hrm hm).mono ?_;rintro e w' ⟨rfl,rfl⟩;generalize (r+r)%m=d at*;have hm0'':Hid (d=(q*2^(8-j)+s[k].toNat/2^j)%m):=hm0';clear hm0';go_wp2;go_round
            case rel=>exact ⟨j,(j:Int)-1,d,rfl,by omega,hd,rfl,rfl,hm0''⟩
            case measure=>simp [intOf]
    · obtain rfl:k=s.size:=by omega
      rw [List.take_of_length_le (by rw [byt_length];omega)] at hr0;go_wp2;go_ret;refine⟨ret_u64 ?_,rfl⟩;rw [hc.out,hr0.out]
end Go.Proofs.YtjhbckngdclleaaGreatDoor
