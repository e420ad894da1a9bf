import Derived.Test.YtjhbckngdclleaaGreatDoorMrg30
set_option linter.unusedVariables false
set_option maxRecDepth 100000
set_option maxHeartbeats 16000000
namespace Go.Proofs.YtjhbckngdclleaaGreatDoor
open Go.Proofs.Tryz Go.RowKit
open Go.Value (int)
open Go.IntKind (u64)
def wdTo (pk:Nat→Nat)(p:Nat):Nat→Nat
  |0=>0
  |k+1=>(wdTo pk p k*256%18446744073709551616+pk (p+k))%18446744073709551616
def wd (pk:Nat→Nat)(p:Nat):Nat:=wdTo pk p 8
namespace Y
theorem side {W W':World}(h:G.Sides [] W W'){t:TypeId}{b:Nat}{cs:Array Value}(hb:Bk W t b cs):Bk W' t b cs:=(h.block b hb.lt (by simp)).trans hb
theorem setCells_all (b:Nat)(T:TypeId):∀(vs:List Value) (o:Nat) (w:World) (cs:List Value),w.heap[b]? =some (.cells cs.toArray T)→o+vs.length≤cs.length→(w.setCells b o vs).heap[b]? =some (.cells (cs.take o++vs++cs.drop (o+vs.length)).toArray T)
  | [],o,w,cs,h,hl=>by simpa [World.setCells] using h
  | v::r,o,w,cs,h,hl=>by
    rw [World.setCells];have h1:(w.setCell ⟨b,o,none⟩ v).heap[b]? =some (.cells (cs.set o v).toArray T):=by simp [World.setCell,Array.getElem?_modify,h]
    simp only [List.length_cons] at hl;rw [setCells_all b T r (o+1) _ _ h1 (by simp;omega)];congr 3;rw [List.take_set,List.drop_set_of_lt (by omega),List.take_add_one,List.getElem?_eq_getElem (by omega)];simp only [Option.toList_some,List.length_cons];rw [List.set_append_right _ _ (by simp;omega)];simp [show min o cs.length=o by omega,show o+1+r.length=o+(r.length+1) by omega]
section
variable {A:Act}{w:World}{dst:Option Tmp}{ty:TypeId}{ps:String}{af:Array Edge}{gd:Option (Nat×Bool)}{x y z:Operand}{b i:Nat}
theorem move {u:Value}(hx:A.eval x=u):Does prog (Opr dst (.move x) ty ps af gd) A w fun v' w'=>v'=u∧Bl w w':=dv (by generalize A.eval=ev at*;simp [execOp,hx,go_sem])
theorem assign {u:Value}(hx:A.eval x=u):Does prog (Opr dst (.assign x) ty ps af gd) A w fun v' w'=>v'=u∧Bl w w':=dv (by generalize A.eval=ev at*;simp [execOp,hx,go_sem])
theorem xt20 {u v:Value}(hx:A.eval x= .tuple #[u,v]):Does prog (Opr dst (.extract x 0) ty ps af gd) A w fun v' w'=>v'=u∧Bl w w':=dv (by generalize A.eval=ev at*;simp [execOp,hx,go_sem])
theorem xt21 {u v:Value}(hx:A.eval x= .tuple #[u,v]):Does prog (Opr dst (.extract x 1) ty ps af gd) A w fun v' w'=>v'=v∧Bl w w':=dv (by generalize A.eval=ev at*;simp [execOp,hx,go_sem])
theorem xt30 {u v t:Value}(hx:A.eval x= .tuple #[u,v,t]):Does prog (Opr dst (.extract x 0) ty ps af gd) A w fun v' w'=>v'=u∧Bl w w':=dv (by generalize A.eval=ev at*;simp [execOp,hx,go_sem])
theorem xt31 {u v t:Value}(hx:A.eval x= .tuple #[u,v,t]):Does prog (Opr dst (.extract x 1) ty ps af gd) A w fun v' w'=>v'=v∧Bl w w':=dv (by generalize A.eval=ev at*;simp [execOp,hx,go_sem])
theorem xt32 {u v t:Value}(hx:A.eval x= .tuple #[u,v,t]):Does prog (Opr dst (.extract x 2) ty ps af gd) A w fun v' w'=>v'=t∧Bl w w':=dv (by generalize A.eval=ev at*;simp [execOp,hx,go_sem])
theorem ldS {v0:Value}(hx:A.eval x= .pointer (some ⟨b,i,none⟩))(h0:w.cell? ⟨b,i,none⟩=some v0):Does prog (Opr dst (.load 9 x) ty ps af gd) A w fun v' w'=>v'=v0∧Bl w w':=dv (by generalize A.eval=ev at*;simp [execOp,hx,h0,go_sem])
theorem cat {a c:ByteArray}(hx:A.eval x= .string a)(hy:A.eval y= .string c)(hz:a.size+c.size≤9223372036854775807):Does prog (Opr dst (.binOp .add 9 x y 9) ty ps af gd) A w fun v' w'=>v'= .string (a++c)∧Bl w w':=by
  have hn: ¬ (9223372036854775807<a.size+c.size):=by omega
  have h:(execOp A.eval (Opr dst (.binOp .add 9 x y 9) ty ps af gd)).run prog w= .ok (.value (.string (a++c))) w:=by generalize A.eval=ev at*;simp [execOp,hx,hy,hn,go_sem]
  exact does_value h ⟨rfl,Below.refl _ _⟩
theorem cl1 {F:FuncId}{at_:Array TypeId}{r:Value}{x0:Operand}{u0:Value}(hcf:∀(args:Array Value) (w:World),(callFunc F args).run prog w= .ok (.enter F args) w)(h0:A.eval x0=u0)
    (hc:Cr F #[u0] w r):
    Does prog (Opr dst (.call {callee:= .value (.func F),args:=#[x0],argTypes:=at_}) ty ps af gd) A w fun v' w'=>v'=r∧Bl w w':=by
  have hF:A.eval (.func F)= .func (.func F) #[] #[]:=rfl;have h:(execOp A.eval (Opr dst (.call {callee:= .value (.func F),args:=#[x0],argTypes:=at_}) ty ps af gd)).run prog w= .ok (.enter F #[u0]) w:=by generalize A.eval=ev at*;simp [execOp,hF,hcf,h0,go_sem]
  exact does_call h (hc.mono fun _ _ ⟨h,h'⟩=>⟨r,h,rfl,h'⟩)
theorem cl2 {F:FuncId}{at_:Array TypeId}{r:Value}{x0 x1:Operand}{u0 u1:Value}(hcf:∀(args:Array Value) (w:World),(callFunc F args).run prog w= .ok (.enter F args) w)(h0:A.eval x0=u0)(h1:A.eval x1=u1)
    (hc:Cr F #[u0,u1] w r):
    Does prog (Opr dst (.call {callee:= .value (.func F),args:=#[x0,x1],argTypes:=at_}) ty ps af gd) A w fun v' w'=>v'=r∧Bl w w':=by
  have hF:A.eval (.func F)= .func (.func F) #[] #[]:=rfl;have h:(execOp A.eval (Opr dst (.call {callee:= .value (.func F),args:=#[x0,x1],argTypes:=at_}) ty ps af gd)).run prog w= .ok (.enter F #[u0,u1]) w:=by generalize A.eval=ev at*;simp [execOp,hF,hcf,h0,h1,go_sem]
  exact does_call h (hc.mono fun _ _ ⟨h,h'⟩=>⟨r,h,rfl,h'⟩)
theorem cl3 {F:FuncId}{at_:Array TypeId}{r:Value}{x0 x1 x2:Operand}{u0 u1 u2:Value}(hcf:∀(args:Array Value) (w:World),(callFunc F args).run prog w= .ok (.enter F args) w)(h0:A.eval x0=u0)(h1:A.eval x1=u1)(h2:A.eval x2=u2)
    (hc:Cr F #[u0,u1,u2] w r):
    Does prog (Opr dst (.call {callee:= .value (.func F),args:=#[x0,x1,x2],argTypes:=at_}) ty ps af gd) A w fun v' w'=>v'=r∧Bl w w':=by
  have hF:A.eval (.func F)= .func (.func F) #[] #[]:=rfl;have h:(execOp A.eval (Opr dst (.call {callee:= .value (.func F),args:=#[x0,x1,x2],argTypes:=at_}) ty ps af gd)).run prog w= .ok (.enter F #[u0,u1,u2]) w:=by generalize A.eval=ev at*;simp [execOp,hF,hcf,h0,h1,h2,go_sem]
  exact does_call h (hc.mono fun _ _ ⟨h,h'⟩=>⟨r,h,rfl,h'⟩)
theorem cl4 {F:FuncId}{at_:Array TypeId}{r:Value}{x0 x1 x2 x3:Operand}{u0 u1 u2 u3:Value}(hcf:∀(args:Array Value) (w:World),(callFunc F args).run prog w= .ok (.enter F args) w)(h0:A.eval x0=u0)(h1:A.eval x1=u1)(h2:A.eval x2=u2)(h3:A.eval x3=u3)
    (hc:Cr F #[u0,u1,u2,u3] w r):
    Does prog (Opr dst (.call {callee:= .value (.func F),args:=#[x0,x1,x2,x3],argTypes:=at_}) ty ps af gd) A w fun v' w'=>v'=r∧Bl w w':=by
  have hF:A.eval (.func F)= .func (.func F) #[] #[]:=rfl;have h:(execOp A.eval (Opr dst (.call {callee:= .value (.func F),args:=#[x0,x1,x2,x3],argTypes:=at_}) ty ps af gd)).run prog w= .ok (.enter F #[u0,u1,u2,u3]) w:=by generalize A.eval=ev at*;simp [execOp,hF,hcf,h0,h1,h2,h3,go_sem]
  exact does_call h (hc.mono fun _ _ ⟨h,h'⟩=>⟨r,h,rfl,h'⟩)
theorem ldT {T:TypeId}{cs:Array Value}{d:TypeDesc}(hu:prog.underlying T=some d)(hd:d.isRow=true)(hi:(prog.info? T).map (·.size)=some cs.size)(hx:A.eval x= .pointer (some ⟨b,0,none⟩))(hr:Bk w T b cs):
    Does prog (Opr dst (.load T x) ty ps af gd) A w fun v' w'=>v'= .agg cs∧Bl w w':=by
  have hl:=run_loadVar_mid (P:=prog) w b 0 T cs.toList d hr.range hu hd (by rw [hi,Array.length_toList])
  have h:(execOp A.eval (Opr dst (.load T x) ty ps af gd)).run prog w= .ok (.value (.agg cs)) w:=by
    generalize A.eval=ev at*;simp [execOp,hx,Instr.loadAt,Instr.sureAddr,hl,Result.andThen]
  exact does_value h ⟨rfl,Below.refl _ _⟩
theorem puA {T T':TypeId}{cs0 cs:Array Value}(hx:A.eval x= .pointer (some ⟨b,0,none⟩))(hy:A.eval y= .agg cs)(hr:w.heap[b]? =some (.cells cs0 T'))(hl:cs.size=cs0.size)(hi:(prog.info? T).map (·.size)=some cs.size)(h1:cs.all (·.oneCell')=true):
    Does prog (Opr dst (.store T x y) ty ps af gd) A w fun _ w'=>Turned b (.cells cs T') w w':=by
  have ht:w.there b 0 cs.size:=fun j hj=>by
    rw [Nat.zero_add];exact⟨by rw [cell_of_row _ _ _ _ _ _ hr,Array.getElem?_eq_getElem (by omega)];rfl,by simp [World.frozen?,hr]⟩
  have h:(execOp A.eval (Opr dst (.store T x y) ty ps af gd)).run prog w= .ok .skip (w.setCells b 0 cs.toList):=by
    unfold execOp Opr;simp only [hx,hy,Instr.storeAt,Instr.sureAddr,Sem.run_bind,Sem.run_pure,Result.andThen_ok,run_storeVar_mid w b 0 T cs ht hi h1]
  refine does_skip h ⟨World.os_setCells w b 0 _,setCells_tape b _ 0 w,World.output_setCells w b 0 _,setCells_size b _ 0 w,?_,fun k hk=> ?_⟩
  · have:=setCells_all b T' cs.toList 0 w cs0.toList (by simpa using hr) (by simp;omega);rw [this];simp [hl,List.drop_eq_nil_of_le]
  · by_cases hlt:k<w.heap.size
    · exact World.heap_setCells_other w b 0 _ hlt hk
    · rw [Array.getElem?_eq_none (by rw [setCells_size];omega),Array.getElem?_eq_none (by omega)]
end
end Y
theorem longS_any (n:Nat):∀(w:World),n≤64→
    Calls prog 52 #[.int .i64 n,.string ⟨#[0]⟩] w fun e w'=>e= .returned (.string (strOfNums (List.replicate n 0)))∧w=w':=by
  induction n using Nat.strongRecOn with
  | ind n ih=>
    intro w hn;have IH:Hid (∀m,m<n→∀(w:World),m≤64→Calls prog 52 #[.int .i64 m,.string ⟨#[0]⟩] w fun e w'=>e= .returned (.string (strOfNums (List.replicate m 0)))∧w=w'):=ih;clear ih;by_cases h0:n=0
    · subst h0;go_enter func52,ntmps52;go_wp2
      go_loop [5] (fun v=>v= .string ⟨#[]⟩) (fun _=>0)
      case atStart=>rfl
      case round=>
        subst hrel;go_wp2;go_ret;exact⟨rfl,rfl⟩
    · have hp:(0:Int)<(n:Int):=by omega
      go_enter func52,ntmps52;go_wp2
      go_loop [5] (fun v=>∃m:Nat,1≤m∧m≤n∧v= .string (strOfNums (List.replicate m 0))) (fun v=>n-strV v)
      case atStart=>exact ⟨1,by omega,by omega,rfl⟩
      case round=>
        obtain⟨m,hm1,hmn,rfl⟩:=hrel;have hsz:(strOfNums (List.replicate m 0)).size=m:=by rw [strOfNums_size,List.length_replicate]
        by_cases h2:m*2≤n
        · have h2i:(m:Int)*2≤(n:Int):=by omega
          go_wp2;go_round
          case rel=>exact ⟨m+m,by omega,by omega,by rw [rep_add]⟩
          case measure=>
            show n-(strOfNums (List.replicate m 0)++strOfNums (List.replicate m 0)).size<n-(strOfNums (List.replicate m 0)).size;rw [ByteArray.size_append,hsz];omega
        · have h2i: ¬ ((m:Int)*2≤(n:Int)):=by omega
          by_cases hmn2:m<n
          · go_wp2_with fail;rw [show (n:Int)-(m:Int)=((n-m:Nat):Int) by omega];refine(IH.out (n-m) (by omega) _ (by omega)).mono ?_;rintro e w' ⟨rfl,rfl⟩;have hs2:(strOfNums (List.replicate (n-m) 0)).size=n-m:=by rw [strOfNums_size,List.length_replicate]
            go_wp2;go_ret;exact⟨congrArg Ending.returned (congrArg Value.string (by rw [rep_add];congr 2;omega)),rfl⟩
          · obtain rfl:m=n:=by omega
            go_wp2;go_ret;exact⟨rfl,rfl⟩
theorem xorS_any (s:ByteArray)(m:Int)(w:World)(hs:s.size≤1000)(h0:0≤m)(h1:m<256):
    Cr 100 #[.string s,.int .u8 m] w (.string (strOfNums (xorL (byt s) m))):=by
  obtain⟨i0,hi,hz0,hz1,hz2⟩:=info_parts infoU8;go_enter func100,ntmps100;go_wp2
  go_loopw [5,6] (fun v i wr=>∃k g cap:Nat,k≤s.size∧i= .int .i64 k∧v= .slice (some ⟨g,0,none⟩) k cap∧Row wr w.heap.size g k cap ((xorL ((byt s).take k) m).map (Value.int .u8))∧Bl w wr) (fun _ i _=>s.size-(intOf i).toNat)
  case atStart=>exact ⟨0,w.heap.size,0,by omega,rfl,rfl,Row.of_block (n:=0) (cs:=#[]) (heap_alloc_new w _) (Nat.le_refl _) (by simp) (by simp),(Below.refl _ _).alloc (Nat.le_refl _) _⟩
  case round=>
    obtain⟨k,g,cap,hk,rfl,rfl,hrow,hbl⟩:=hrel;have hsz1:w.heap.size≤wr.heap.size:=hbl.size;by_cases hlt:k<s.size
    · have hx:Hid (xorL ((byt s).take (k+1)) m=xorL ((byt s).take k) m++ [bits BinOp.xor IntKind.u8 (s[k].toNat:Int) m]):=by
        simp only [Hid];rw [List.take_succ_eq_append_getElem (by rw [byt_length];exact hlt),xorL,List.map_append];simp [byt,xorL];rfl
      go_wp2_with (first
        |(at_builtin;refine wpList_append_row rfl _ _ 35 rfl w.heap.size 5 i0 (.int .u8 0) 1 underlying35 hi hz0 hz1 hz2 rfl g k cap ((xorL ((byt s).take k) m).map (Value.int .u8)) rfl (hrow.alloc _) ⟨wr.heap.size,0,none⟩ 1 1 [.int .u8 (bits BinOp.xor IntKind.u8 (s[k].toNat:Int) m)] rfl rfl (World.news_of_block (cs:=#[.int .u8 (bits BinOp.xor IntKind.u8 (s[k].toNat:Int) m)]) (heap_alloc_new wr _)) (by simp [Value.oneCell']) (by unfold maxLen;omega) (by omega) (by simp;omega) _ rfl ?_;intro g3 cap3 w3 hrow3 hgr3 _ _)
        |go_in)
      go_roundw
      case rel=>
        have R1:Row w3 w.heap.size g3 (k+1) cap3 ((xorL ((byt s).take (k+1)) m).map (Value.int .u8)):=by
          rw [hx.out,List.map_append];exact hrow3
        have R2:Bl w w3:=(hbl.alloc hsz1 _).grown hgr3 (by simp;omega) (fun r hr=>by simp at hr;have:=hrow.lo;omega)
        first
          |exact ⟨k+1,g3,cap3,by omega,by go_num,rfl,R1,R2⟩
          |((repeat apply Exists.intro);exact⟨⟨k+1,g3,cap3,by omega,by go_num,rfl,R1,R2⟩,rfl⟩)
      case measure=>simp [intOf];omega
    · obtain rfl:k=s.size:=by omega
      rw [List.take_of_length_le (by rw [byt_length];omega)] at hrow;have hcv:=run_convert_bytes_arg (P:=prog) wr 35 5 underlying35 underlying5 g 0 s.size cap (xorL (byt s) m) (by rw [xorL_length,byt_length]) (fun i h=>by rw [Nat.zero_add];exact hrow.cell i h) 9 underlying9;go_wp2;go_ret;exact⟨rfl,hbl⟩
theorem hmacS_any (key s:ByteArray)(w:World)(hk:key.size≤33554432)(hs:s.size≤33554432):
    Cr 43 #[.string key,.string s] w (.string (strOfNums (hmacF (byt key) (byt s)))):=by
  by_cases h64:64<key.size
  · have h64i:(64:Int)<(key.size:Int):=by omega
    go_enter func43,ntmps43;go_wp2_with fail;refine(shaS_any key w (by omega)).mono ?_;rintro e W0 ⟨rfl,hb0⟩;obtain⟨k1,Hk1,hk1,hk1le⟩:∃k1,Hid (k1=strOfNums (shaF (byt key)))∧Hid (k1.size=32)∧k1.size≤64:=⟨_,rfl,by simp only [Hid];rw [strOfNums_size,shaF_length],by rw [strOfNums_size,shaF_length];omega⟩;rw [←Hk1.out];have hz:=strOfNums_size (List.replicate (64-k1.size) 0);rw [List.length_replicate] at hz;go_wp2_with fail;rw [show (64:Int)-(k1.size:Int)=((64-k1.size:Nat):Int) by omega];refine(longS_any (64-k1.size) _ (by omega)).mono ?_;rintro e w' ⟨rfl,rfl⟩;go_wp2_with fail
    have hkk:Hid (byt (k1++strOfNums (List.replicate (64-k1.size) 0))=kkL (byt key)):=by
      simp only [Hid];rw [byt_append,byt_str _ (rep_lt _)];unfold kkL keyL;rw [if_pos (by rw [byt_length];omega),Hk1.out,byt_str _ (shaF_lt _),shaF_length,←Hk1.out,hk1.out]
    have hks:(k1++strOfNums (List.replicate (64-k1.size) 0)).size=64:=by rw [ByteArray.size_append,hz];omega
    generalize k1++strOfNums (List.replicate (64-k1.size) 0)=kk at*;clear hz;refine(xorS_any kk 92 _ (by omega) (by omega) (by omega)).mono ?_;rintro e W1 ⟨rfl,hb1⟩;go_wp2_with fail;refine(xorS_any kk 54 _ (by omega) (by omega) (by omega)).mono ?_;rintro e W2 ⟨rfl,hb2⟩;rw [hkk.out];have hz1:(strOfNums (xorL (kkL (byt key)) 54)).size=64:=by rw [strOfNums_size,xorL_length,kkL_length]
    have hz2:(strOfNums (xorL (kkL (byt key)) 92)).size=64:=by rw [strOfNums_size,xorL_length,kkL_length]
    go_wp2_with fail;refine(shaS_any _ W2 (by rw [ByteArray.size_append,hz1];omega)).mono ?_;rintro e W3 ⟨rfl,hb3⟩;have hz3:∀l,(strOfNums (shaF l)).size=32:=fun l=>by rw [strOfNums_size,shaF_length]
    have hz4:=hz3 (byt (strOfNums (xorL (kkL (byt key)) 54)++s));go_wp2_with fail;refine(shaS_any _ W3 (by rw [ByteArray.size_append,hz2,hz4];omega)).mono ?_;rintro e W4 ⟨rfl,hb4⟩;go_wp2;go_ret;refine⟨congrArg Ending.returned (congrArg Value.string ?_),((hb0.tr hb1).trans ((hb2.mono hb1.size).mono hb0.size)).trans (((hb3.mono hb2.size).mono hb1.size|>.trans (((hb4.mono hb3.size).mono hb2.size).mono hb1.size)).mono hb0.size)⟩;rw [byt_append,byt_append,byt_str _ (xorL_lt _ _),byt_str _ (xorL_lt _ _),byt_str _ (shaF_lt _)];rfl
  · have h64i: ¬ ((64:Int)<(key.size:Int)):=by omega
    go_enter func43,ntmps43;have hz:=strOfNums_size (List.replicate (64-key.size) 0);rw [List.length_replicate] at hz;go_wp2_with fail;rw [show (64:Int)-(key.size:Int)=((64-key.size:Nat):Int) by omega];refine(longS_any (64-key.size) _ (by omega)).mono ?_;rintro e w' ⟨rfl,rfl⟩;go_wp2_with fail
    have hkk:Hid (byt (key++strOfNums (List.replicate (64-key.size) 0))=kkL (byt key)):=by
      simp only [Hid];rw [byt_append,byt_str _ (rep_lt _)];unfold kkL keyL;rw [if_neg (by rw [byt_length];omega),byt_length]
    have hks:(key++strOfNums (List.replicate (64-key.size) 0)).size=64:=by rw [ByteArray.size_append,hz];omega
    generalize key++strOfNums (List.replicate (64-key.size) 0)=kk at*;clear hz;refine(xorS_any kk 92 _ (by omega) (by omega) (by omega)).mono ?_;rintro e W1 ⟨rfl,hb1⟩;go_wp2_with fail;refine(xorS_any kk 54 _ (by omega) (by omega) (by omega)).mono ?_;rintro e W2 ⟨rfl,hb2⟩;rw [hkk.out];have hz1:(strOfNums (xorL (kkL (byt key)) 54)).size=64:=by rw [strOfNums_size,xorL_length,kkL_length]
    have hz2:(strOfNums (xorL (kkL (byt key)) 92)).size=64:=by rw [strOfNums_size,xorL_length,kkL_length]
    go_wp2_with fail;refine(shaS_any _ W2 (by rw [ByteArray.size_append,hz1];omega)).mono ?_;rintro e W3 ⟨rfl,hb3⟩;have hz3:∀l,(strOfNums (shaF l)).size=32:=fun l=>by rw [strOfNums_size,shaF_length]
    have hz4:=hz3 (byt (strOfNums (xorL (kkL (byt key)) 54)++s));go_wp2_with fail;refine(shaS_any _ W3 (by rw [ByteArray.size_append,hz2,hz4];omega)).mono ?_;rintro e W4 ⟨rfl,hb4⟩;go_wp2;go_ret;refine⟨congrArg Ending.returned (congrArg Value.string ?_),(((Below.refl _ _).trans (hb1.mono (Nat.le_refl _))).trans ((hb2.mono hb1.size).mono (Nat.le_refl _))).trans (((hb3.mono hb2.size).mono hb1.size|>.trans (((hb4.mono hb3.size).mono hb2.size).mono hb1.size)).mono (Nat.le_refl _))⟩;rw [byt_append,byt_append,byt_str _ (xorL_lt _ _),byt_str _ (xorL_lt _ _),byt_str _ (shaF_lt _)];rfl
theorem expS_no (key info:ByteArray)(n:Int)(w:World)(hn:n<0∨8160<n):
    Cr 101 #[.string key,.string info,.int .i64 n] w (.tuple #[.string ⟨#[]⟩,.bool false]):=by
  rcases hn with hn|hn
  · go_enter func101,ntmps101;go_wp2;go_ret2;exact⟨rfl,Below.refl _ _⟩
  · have h0: ¬ n<0:=by omega
    go_enter func101,ntmps101;go_wp2;go_ret2;exact⟨rfl,Below.refl _ _⟩
theorem expS_yes (key info:ByteArray)(n:Nat)(w:World)(hk:key.size≤1048576)(hi:info.size≤1048576)(hn:n≤8160):
    Cr 101 #[.string key,.string info,.int .i64 n] w (.tuple #[.string (strOfNums (expF (byt key) (byt info) n)),.bool true]):=by
  have h0: ¬ ((n:Int)<0):=by omega
  have h1: ¬ ((8160:Int)<(n:Int)):=by omega
  go_enter func101,ntmps101;go_wp2
  go_loopw [8,9,10] (fun ov tv i wr=>∃k:Nat,32*k≤n+31∧i= .int .i64 ((k:Int)+1)∧tv= .string (strOfNums (tTo (byt key) (byt info) k))∧ov= .string (strOfNums (outTo (byt key) (byt info) k))∧Bl w wr) (fun _ _ i _=>300-(intOf i).toNat)
  case atStart=>exact ⟨0,by omega,rfl,rfl,rfl,Below.refl _ _⟩
  case round=>
    obtain⟨k,hkn,rfl,rfl,rfl,hbl⟩:=hrel;have hzo:(strOfNums (outTo (byt key) (byt info) k)).size=32*k:=by rw [strOfNums_size,outTo_length]
    have hzt:(strOfNums (tTo (byt key) (byt info) k)).size≤32:=by rw [strOfNums_size];exact tTo_le _ _ _
    by_cases hlt:32*k<n
    · have hk255:k<255:=by omega
      have hcv:=run_convert_bytes_arg (P:=prog) (wr.alloc (.cells #[.int .u8 ((k:Int)+1)] 5)) 35 5 underlying35 underlying5 wr.heap.size 0 1 1 [(k:Int)+1] rfl (fun i h=>by
        obtain rfl:i=0:=by omega
        rw [cell_of_row _ _ _ _ _ _ (heap_alloc_new wr _)];rfl) 9 underlying9
      have hz1:(strOfNums [(k:Int)+1]).size=1:=by rw [strOfNums_size];rfl
      have ht1:Hid (hmacF (byt key) (byt (strOfNums (tTo (byt key) (byt info) k)++info++strOfNums [(k:Int)+1]))=tTo (byt key) (byt info) (k+1)):=by
        simp only [Hid];rw [byt_append,byt_append,byt_str _ (tTo_lt _ _ _),byt_one k hk255,tTo]
      have ho1:Hid (strOfNums (outTo (byt key) (byt info) k)++strOfNums (tTo (byt key) (byt info) (k+1))=strOfNums (outTo (byt key) (byt info) (k+1))):=by
        simp only [Hid];rw [str_append',outTo]
      go_wp2_with fail;refine(hmacS_any key _ _ (by omega) (by rw [ByteArray.size_append,ByteArray.size_append,hz1];omega)).mono ?_;rintro e W1 ⟨rfl,hb1⟩;rw [ht1.out];have hzt1:(strOfNums (tTo (byt key) (byt info) (k+1))).size=32:=by rw [strOfNums_size,tTo,hmacF_length]
      have hb2:Bl w W1:=(hbl.alloc hbl.size _).trans (hb1.mono (by have:=hbl.size;simp;omega));clear hcv hb1;go_wp2;go_roundw
      case rel=>
        have R:Value.string (strOfNums (outTo (byt key) (byt info) k)++strOfNums (tTo (byt key) (byt info) (k+1)))=Value.string (strOfNums (outTo (byt key) (byt info) (k+1))):=by rw [ho1.out]
        first
          |exact ⟨k+1,by omega,by go_num,rfl,R,hb2⟩
          |((repeat apply Exists.intro);exact⟨⟨k+1,by omega,by go_num,rfl,R,hb2⟩,rfl⟩)
      case measure=>simp [intOf];omega
    · have hkk:k=(n+31)/32:=by omega
      have hres:Hid ((strOfNums (outTo (byt key) (byt info) k)).extract 0 n=strOfNums (expF (byt key) (byt info) n)):=by
        simp only [Hid];rw [str_take,expF,←hkk]
      clear hkk;go_wp2;go_ret2;refine⟨?_,hbl⟩;show Ending.returned (.tuple #[.string ((strOfNums (outTo (byt key) (byt info) k)).extract 0 n),.bool true])=_;rw [hres.out]
end Go.Proofs.YtjhbckngdclleaaGreatDoor
