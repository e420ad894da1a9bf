import Derived.Test.YtmjniccfjffclaaGreatDoorMrg17
set_option linter.unusedVariables false
set_option maxRecDepth 100000
set_option maxHeartbeats 16000000
namespace Go.Proofs.YtmjniccfjffclaaGreatDoor
open Go.Proofs.Tryz Go.RowKit
open Go.Value (int)
open Go.IntKind (u64)
def Bk (W:World)(t:TypeId)(b:Nat)(cs:Array Value):Prop:=W.heap[b]? =some (.cells cs t)
section
variable {W W':World}{t:TypeId}{b:Nat}{cs:Array Value}
theorem Bk.cell (h:Bk W t b cs){k:Nat}{v:Value}(hk:cs[k]? =some v):W.cell? ⟨b,k,none⟩=some v:=by
  rw [cell_of_row _ _ _ _ _ _ h];exact hk
theorem Bk.frz (h:Bk W t b cs)(i:Nat):W.frozen? ⟨b,i,none⟩=false:=by unfold Bk at h;simp [World.frozen?,h]
theorem Bk.lt (h:Bk W t b cs):b<W.heap.size:=(Array.getElem?_eq_some_iff.1 h).1
theorem Bk.keep (h:Bk W t b cs)(hb:Bl W W'):Bk W' t b cs:=(hb.block b h.lt).trans h
theorem Bk.below {N:Nat}(h:Bk W t b cs)(hb:Below N W W')(hl:b<N):Bk W' t b cs:=(hb.block b hl).trans h
theorem Bk.new (w:World)(t:TypeId)(cs:Array Value):Bk (w.alloc (.cells cs t)) t w.heap.size cs:=heap_alloc_new w _
theorem Bk.alloc (h:Bk W t b cs)(o:Obj):Bk (W.alloc o) t b cs:=(Below.heap_alloc W o b h.lt).trans h
theorem Bk.at {b':Nat}(h:Bk W t b cs)(e:b=b'):Bk W t b' cs:=e▸h
theorem Bk.range (h:Bk W t b cs):W.rangeAt b 0 cs.toList:=fun j v hj=>by
  rw [Nat.zero_add];exact h.cell (by rw [←hj,Array.getElem?_toList])
theorem Bk.set (h:Bk W t b cs)(i:Nat)(v:Value):Bk (W.setCell ⟨b,i,none⟩ v) t b (cs.setIfInBounds i v):=by
  unfold Bk at*;simp [World.setCell,Array.getElem?_modify,h]
theorem Bk.other (h:Bk W t b cs){b':Nat}(hne:b≠b')(i:Nat)(v:Value):Bk (W.setCell ⟨b',i,none⟩ v) t b cs:=by
  unfold Bk at*;rw [←h];simp [World.setCell,Array.getElem?_modify,Ne.symm hne]
theorem Bk.there (h:Bk W t b cs)(n:Nat)(hn:n≤cs.size):W.there b 0 n:=fun j hj=>by
  rw [Nat.zero_add];exact⟨by rw [h.cell (v:=cs[j]'(by omega)) (Array.getElem?_eq_getElem (by omega))];rfl,h.frz j⟩
theorem bk_res1 {fn:Func}{p:Tmp}{d:TypeDesc}(h:fn.results=#[.cell p t])(tmps:Array Value)(hp:tmps.getD p undef= .pointer (some ⟨b,0,none⟩))(hc:Bk W t b cs)(hu:prog.underlying t=some d)(hd:d.isRow=true)(hi:(prog.info? t).map (·.size)=some cs.size):
    (results fn tmps).run prog W= .ok (.agg cs) W:=by
  have hp':tmps[p]?.getD undef= .pointer (some ⟨b,0,none⟩):=by simpa using hp
  have hl:=run_loadVar_mid (P:=prog) W b 0 t cs.toList d hc.range hu hd (by rw [hi,Array.length_toList]);simp [results,h,hp',asAddr,hl]
theorem bk_res2 {fn:Func}{p u:Tmp}{d:TypeDesc}(h:fn.results=#[.cell p t,.tmp u])(tmps:Array Value)(hp:tmps.getD p undef= .pointer (some ⟨b,0,none⟩))(hc:Bk W t b cs)(hu:prog.underlying t=some d)(hd:d.isRow=true)(hi:(prog.info? t).map (·.size)=some cs.size):
    (results fn tmps).run prog W= .ok (.tuple #[.agg cs,tmps.getD u undef]) W:=by
  have hp':tmps[p]?.getD undef= .pointer (some ⟨b,0,none⟩):=by simpa using hp
  have hl:=run_loadVar_mid (P:=prog) W b 0 t cs.toList d hc.range hu hd (by rw [hi,Array.length_toList]);simp [results,h,hp',asAddr,hl]
end
section
variable {A:Act}{w:World}{dst:Option Tmp}{ty:TypeId}{ps:String}{af:Array Edge}{gd:Option (Nat×Bool)}{x y:Operand}{b i:Nat}
theorem ld_set {v0 v1:Value}(hx:A.eval x= .pointer (some ⟨b,i,none⟩))(h0:w.cell? ⟨b,i,none⟩=some v0)(h1:w.cell? ⟨b,i+1,none⟩=some v1):
    Does prog (Opr dst (.load 119 x) ty ps af gd) A w fun v' w'=>v'= .agg #[v0,v1]∧Bl w w':=dv (by generalize A.eval=ev at*;simp [execOp,hx,h0,h1,go_sem])
theorem ld_err {v0:Value}(hx:A.eval x= .pointer (some ⟨b,i,none⟩))(h0:w.cell? ⟨b,i,none⟩=some v0):
    Does prog (Opr dst (.load 70 x) ty ps af gd) A w fun v' w'=>v'=v0∧Bl w w':=dv (by generalize A.eval=ev at*;simp [execOp,hx,h0,go_sem])
theorem ld_str {v0:Value}(hx:A.eval x= .pointer (some ⟨b,i,none⟩))(h0:w.cell? ⟨b,i,none⟩=some v0):
    Does prog (Opr dst (.load 9 x) ty ps af gd) A w fun v' w'=>v'=v0∧Bl w w':=dv (by generalize A.eval=ev at*;simp [execOp,hx,h0,go_sem])
theorem ld_fn5 {v0:Value}(hx:A.eval x= .pointer (some ⟨b,i,none⟩))(h0:w.cell? ⟨b,i,none⟩=some v0):
    Does prog (Opr dst (.load 125 x) ty ps af gd) A w fun v' w'=>v'=v0∧Bl w w':=dv (by generalize A.eval=ev at*;simp [execOp,hx,h0,go_sem])
theorem ld_fn6 {v0:Value}(hx:A.eval x= .pointer (some ⟨b,i,none⟩))(h0:w.cell? ⟨b,i,none⟩=some v0):
    Does prog (Opr dst (.load 126 x) ty ps af gd) A w fun v' w'=>v'=v0∧Bl w w':=dv (by generalize A.eval=ev at*;simp [execOp,hx,h0,go_sem])
theorem ld_bld {v0 v1 v2 v3 v4 v5:Value}(hx:A.eval x= .pointer (some ⟨b,i,none⟩))(h0:w.cell? ⟨b,i,none⟩=some v0)(h1:w.cell? ⟨b,i+1,none⟩=some v1)(h2:w.cell? ⟨b,i+2,none⟩=some v2)(h3:w.cell? ⟨b,i+3,none⟩=some v3)(h4:w.cell? ⟨b,i+4,none⟩=some v4)(h5:w.cell? ⟨b,i+5,none⟩=some v5):
    Does prog (Opr dst (.load 39 x) ty ps af gd) A w fun v' w'=>v'= .agg #[v0,v1,v2,v3,v4,v5]∧Bl w w':=dv (by generalize A.eval=ev at*;simp [execOp,hx,h0,h1,h2,h3,h4,h5,go_sem])
theorem fa_pro0 (hx:A.eval x= .pointer (some ⟨b,i,none⟩)):
    Does prog (Opr dst (.fieldAddr 130 x 0) ty ps af gd) A w fun v' w'=>v'= .pointer (some ⟨b,i,none⟩)∧Bl w w':=dv (by generalize A.eval=ev at*;simp [execOp,hx,go_sem])
theorem fa_pro1 (hx:A.eval x= .pointer (some ⟨b,i,none⟩)):
    Does prog (Opr dst (.fieldAddr 130 x 1) ty ps af gd) A w fun v' w'=>v'= .pointer (some ⟨b,i+2,none⟩)∧Bl w w':=dv (by generalize A.eval=ev at*;simp [execOp,hx,go_sem])
theorem fa_rul5 (hx:A.eval x= .pointer (some ⟨b,i,none⟩)):
    Does prog (Opr dst (.fieldAddr 128 x 5) ty ps af gd) A w fun v' w'=>v'= .pointer (some ⟨b,i+5,none⟩)∧Bl w w':=dv (by generalize A.eval=ev at*;simp [execOp,hx,go_sem])
theorem fa_rul6 (hx:A.eval x= .pointer (some ⟨b,i,none⟩)):
    Does prog (Opr dst (.fieldAddr 128 x 6) ty ps af gd) A w fun v' w'=>v'= .pointer (some ⟨b,i+6,none⟩)∧Bl w w':=dv (by generalize A.eval=ev at*;simp [execOp,hx,go_sem])
theorem fa_set0 (hx:A.eval x= .pointer (some ⟨b,i,none⟩)):
    Does prog (Opr dst (.fieldAddr 119 x 0) ty ps af gd) A w fun v' w'=>v'= .pointer (some ⟨b,i,none⟩)∧Bl w w':=dv (by generalize A.eval=ev at*;simp [execOp,hx,go_sem])
theorem fa_set1 (hx:A.eval x= .pointer (some ⟨b,i,none⟩)):
    Does prog (Opr dst (.fieldAddr 119 x 1) ty ps af gd) A w fun v' w'=>v'= .pointer (some ⟨b,i+1,none⟩)∧Bl w w':=dv (by generalize A.eval=ev at*;simp [execOp,hx,go_sem])
theorem fa_bld1 (hx:A.eval x= .pointer (some ⟨b,i,none⟩)):
    Does prog (Opr dst (.fieldAddr 39 x 1) ty ps af gd) A w fun v' w'=>v'= .pointer (some ⟨b,i+3,none⟩)∧Bl w w':=dv (by generalize A.eval=ev at*;simp [execOp,hx,go_sem])
theorem bu0_nN:Does prog (Opr dst (.build 86 #[]) ty ps af gd) A w fun v' w'=>v'= .agg #[int u64 0]∧Bl w w':=dv (by generalize A.eval=ev at*;simp [execOp,go_sem])
theorem bu0_pro:Does prog (Opr dst (.build 130 #[]) ty ps af gd) A w fun v' w'=>v'= .agg #[.string ⟨#[]⟩,.string ⟨#[]⟩,.nilFunc,.nilFunc,.nilFunc,.nilFunc,.nilFunc,.nilFunc,.nilFunc]∧Bl w w':=dv (by generalize A.eval=ev at*;simp [execOp,go_sem])
theorem bu_flt {s:ByteArray}{a:Addr}(hx:A.eval x= .string s)(hy:A.eval y=sen a):
    Does prog (Opr dst (.build 136 #[(0,x),(1,y)]) ty ps af gd) A w fun v' w'=>v'= .agg #[.string s,sen a]∧Bl w w':=dv (by generalize A.eval=ev at*;simp [execOp,hx,hy,sen,go_sem])
theorem mi_flt {u:Value}(hx:A.eval x=u):
    Does prog (Opr dst (.makeInterface 136 x) ty ps af gd) A w fun v' w'=>v'= .iface 136 u∧Bl w w':=dv (by generalize A.eval=ev at*;simp [execOp,hx,go_sem])
theorem bu_bld {a b' c d:Int}{e f:Bool}(hx:A.eval x= .agg #[int u64 a,int u64 b',.bool e])(hy:A.eval y= .agg #[int u64 c,int u64 d,.bool f]):
    Does prog (Opr dst (.build 39 #[(0,x),(1,y)]) ty ps af gd) A w fun v' w'=>v'= .agg #[int u64 a,int u64 b',.bool e,int u64 c,int u64 d,.bool f]∧Bl w w':=dv (by generalize A.eval=ev at*;simp [execOp,hx,hy,go_sem])
theorem fl_cp0 {a b':Int}{c:Bool}(hx:A.eval x= .agg #[int u64 a,int u64 b',.bool c]):
    Does prog (Opr dst (.field 75 x 0) ty ps af gd) A w fun v' w'=>v'= .agg #[int u64 a,int u64 b',.bool c]∧Bl w w':=dv (by generalize A.eval=ev at*;simp [execOp,hx,fldK,go_sem])
theorem cv1 {F:FuncId}{at_:Array TypeId}{r:Value}{x0:Operand}{u0:Value}(hcf:∀(args:Array Value) (w:World),(callFunc F args).run prog w= .ok (.enter F args) w)(hF:A.eval x= .func (.func F) #[] #[])(h0:A.eval x0=u0)
    (hc:Cr F #[u0] w r):
    Does prog (Opr dst (.call {callee:= .value x,args:=#[x0],argTypes:=at_}) ty ps af gd) A w fun v' w'=>v'=r∧Bl w w':=by
  have h:(execOp A.eval (Opr dst (.call {callee:= .value x,args:=#[x0],argTypes:=at_}) ty ps af gd)).run prog w= .ok (.enter F #[u0]) w:=by generalize A.eval=ev at*;simp [execOp,hF,hcf,h0,go_sem]
  exact does_call h (hc.mono fun _ _ ⟨h,h'⟩=>⟨r,h,rfl,h'⟩)
theorem cw1 {F:FuncId}{at_:Array TypeId}{Fv:Nat→Value}{R:Nat→World→Prop}{x0:Operand}{u0:Value}(hcf:∀(args:Array Value) (w:World),(callFunc F args).run prog w= .ok (.enter F args) w)(hF:A.eval x= .func (.func F) #[] #[])(h0:A.eval x0=u0)
    (hc:Calls prog F #[u0] w fun e w'=>∃x,e= .returned (Fv x)∧R x w'∧Bl w w'):
    Does prog (Opr dst (.call {callee:= .value x,args:=#[x0],argTypes:=at_}) ty ps af gd) A w fun v' w'=>∃x,v'=Fv x∧R x w'∧Bl w w':=by
  have h:(execOp A.eval (Opr dst (.call {callee:= .value x,args:=#[x0],argTypes:=at_}) ty ps af gd)).run prog w= .ok (.enter F #[u0]) w:=by generalize A.eval=ev at*;simp [execOp,hF,hcf,h0,go_sem]
  exact does_call h (hc.mono fun _ _ ⟨x,h,h'⟩=>⟨Fv x,h,x,rfl,h'⟩)
theorem cv4 {F:FuncId}{at_:Array TypeId}{r:Value}{x0 x1 x2 x3:Operand}{u0 u1 u2 u3:Value}(hcf:∀(args:Array Value) (w:World),(callFunc F args).run prog w= .ok (.enter F args) w)(hF:A.eval x= .func (.func F) #[] #[])(h0:A.eval x0=u0)(h1:A.eval x1=u1)(h2:A.eval x2=u2)(h3:A.eval x3=u3)
    (hc:Cr F #[u0,u1,u2,u3] w r):
    Does prog (Opr dst (.call {callee:= .value x,args:=#[x0,x1,x2,x3],argTypes:=at_}) ty ps af gd) A w fun v' w'=>v'=r∧Bl w w':=by
  have h:(execOp A.eval (Opr dst (.call {callee:= .value x,args:=#[x0,x1,x2,x3],argTypes:=at_}) ty ps af gd)).run prog w= .ok (.enter F #[u0,u1,u2,u3]) w:=by generalize A.eval=ev at*;simp [execOp,hF,hcf,h0,h1,h2,h3,go_sem]
  exact does_call h (hc.mono fun _ _ ⟨h,h'⟩=>⟨r,h,rfl,h'⟩)
theorem eq_cpz {p:M.Pt}(hx:A.eval x= .agg #[int u64 (px p),int u64 (py p),.bool (pb p)])(hy:A.eval y= .agg #[int u64 0,int u64 0,.bool true]):
    Does prog (Opr dst (.binOp .eql 75 x y 75) ty ps af gd) A w fun v' w'=>v'= .bool (pb p)∧Bl w w':=by
  have h:(execOp A.eval (Opr dst (.binOp .eql 75 x y 75) ty ps af gd)).run prog w= .ok (.value (.bool (pb p))) w:=by
    generalize A.eval=ev at*;rcases p with _|⟨X,Y⟩<;>simp only [px,py,pb] at hx⊢ <;>simp [execOp,hx,hy,go_sem]
  exact does_value h ⟨rfl,Below.refl _ _⟩
theorem setCells_full (b:Nat)(T:TypeId):∀(vs:List Value) (o:Nat) (w:World) (cs:List Value),w.heap[b]? =some (.cells cs.toArray T)→o+vs.length≤cs.length→(w.setCells b o vs).heap[b]? =some (.cells (cs.take o++vs++cs.drop (o+vs.length)).toArray T)
  | [],o,w,cs,h,hl=>by simpa [World.setCells] using h
  | v::r,o,w,cs,h,hl=>by
    rw [World.setCells];have h1:(w.setCell ⟨b,o,none⟩ v).heap[b]? =some (.cells (cs.set o v).toArray T):=by simp [World.setCell,Array.getElem?_modify,h]
    simp only [List.length_cons] at hl;rw [setCells_full b T r (o+1) _ _ h1 (by simp;omega)];congr 3;rw [List.take_set,List.drop_set_of_lt (by omega),List.take_add_one,List.getElem?_eq_getElem (by omega)];simp only [Option.toList_some,List.length_cons];rw [List.set_append_right _ _ (by simp;omega)];simp [show min o cs.length=o by omega,show o+1+r.length=o+(r.length+1) by omega]
theorem pu_any {T T':TypeId}{cs0 cs:Array Value}(hx:A.eval x= .pointer (some ⟨b,0,none⟩))(hy:A.eval y= .agg cs)(hr:w.heap[b]? =some (.cells cs0 T'))(hl:cs.size=cs0.size)(hi:(prog.info? T).map (·.size)=some cs.size)(h1:cs.all (·.oneCell')=true):
    Does prog (Opr dst (.store T x y) ty ps af gd) A w fun _ w'=>Turned b (.cells cs T') w w':=by
  have ht:w.there b 0 cs.size:=fun j hj=>by
    rw [Nat.zero_add];exact⟨by rw [cell_of_row _ _ _ _ _ _ hr,Array.getElem?_eq_getElem (by omega)];rfl,by simp [World.frozen?,hr]⟩
  have h:(execOp A.eval (Opr dst (.store T x y) ty ps af gd)).run prog w= .ok .skip (w.setCells b 0 cs.toList):=by
    unfold execOp Opr;simp only [hx,hy,Instr.storeAt,Instr.sureAddr,Sem.run_bind,Sem.run_pure,Result.andThen_ok,run_storeVar_mid w b 0 T cs ht hi h1]
  refine does_skip h ⟨World.os_setCells w b 0 _,setCells_tape b _ 0 w,World.output_setCells w b 0 _,setCells_size b _ 0 w,?_,fun k hk=> ?_⟩
  · have:=setCells_full b T' cs.toList 0 w cs0.toList (by simpa using hr) (by simp;omega);rw [this];simp [hl,List.drop_eq_nil_of_le]
  · by_cases hlt:k<w.heap.size
    · exact World.heap_setCells_other w b 0 _ hlt hk
    · rw [Array.getElem?_eq_none (by rw [setCells_size];omega),Array.getElem?_eq_none (by omega)]
theorem size_pro:(prog.info? 130).map (·.size)=some 9:=by kernel_rfl
theorem size_bld:(prog.info? 39).map (·.size)=some 6:=by kernel_rfl
end
theorem cf_impl_zeroPoint (args:Array Value)(w:World):(callFunc 77 args).run prog w= .ok (.enter 77 args) w:=by kernel_rfl
theorem cf_impl_basePoint (args:Array Value)(w:World):(callFunc 41 args).run prog w= .ok (.enter 41 args) w:=by kernel_rfl
theorem cf_impl_setting_tweak (args:Array Value)(w:World):(callFunc 173 args).run prog w= .ok (.enter 173 args) w:=by kernel_rfl
theorem cf_impl_number_impl_primeN_plus (args:Array Value)(w:World):(callFunc 172 args).run prog w= .ok (.enter 172 args) w:=by kernel_rfl
theorem cf_impl_codeOf (args:Array Value)(w:World):(callFunc 70 args).run prog w= .ok (.enter 70 args) w:=by kernel_rfl
section
variable {A:Act}{w:World}{dst:Option Tmp}{ty:TypeId}{ps:String}{af:Array Edge}{gd:Option (Nat×Bool)}{x y:Operand}{b i:Nat}
theorem fa_evd0 (hx:A.eval x= .pointer (some ⟨b,i,none⟩)):
    Does prog (Opr dst (.fieldAddr 30 x 0) ty ps af gd) A w fun v' w'=>v'= .pointer (some ⟨b,i,none⟩)∧Bl w w':=dv (by generalize A.eval=ev at*;simp [execOp,hx,go_sem])
theorem fa_evd1 (hx:A.eval x= .pointer (some ⟨b,i,none⟩)):
    Does prog (Opr dst (.fieldAddr 30 x 1) ty ps af gd) A w fun v' w'=>v'= .pointer (some ⟨b,i+1,none⟩)∧Bl w w':=dv (by generalize A.eval=ev at*;simp [execOp,hx,go_sem])
theorem ld_evd {v0 v1 v2:Value}(hx:A.eval x= .pointer (some ⟨b,i,none⟩))(h0:w.cell? ⟨b,i,none⟩=some v0)(h1:w.cell? ⟨b,i+1,none⟩=some v1)(h2:w.cell? ⟨b,i+2,none⟩=some v2):
    Does prog (Opr dst (.load 30 x) ty ps af gd) A w fun v' w'=>v'= .agg #[v0,v1,v2]∧Bl w w':=dv (by generalize A.eval=ev at*;simp [execOp,hx,h0,h1,h2,go_sem])
theorem ld_ptsl {v0:Value}(hx:A.eval x= .pointer (some ⟨b,i,none⟩))(h0:w.cell? ⟨b,i,none⟩=some v0):
    Does prog (Opr dst (.load 24 x) ty ps af gd) A w fun v' w'=>v'=v0∧Bl w w':=dv (by generalize A.eval=ev at*;simp [execOp,hx,h0,go_sem])
theorem eq_intT {a:Int}(hx:A.eval x= .int .i64 a)(hy:A.eval y= .int .i64 a):
    Does prog (Opr dst (.binOp .eql 3 x y 3) ty ps af gd) A w fun v' w'=>v'= .bool true∧Bl w w':=dv (by generalize A.eval=ev at*;simp [execOp,hx,hy,go_sem])
end
def scaT (k:Nat):ByteArray:=tagB ⟨#[72,97,115,104,84,111,83,99,97,108,97,114,45]⟩ k
def scaN (s:ByteArray)(k:Nat):Nat:=hNum s (scaT k) 2305843010818082053 1 0
theorem scaS_any (s:ByteArray)(k:Nat)(w:World)(hk:k<3)(hs:s.size≤65535):
    Cr 61 #[.string s,.int .i64 k] w (int u64 (scaN s k)):=by
  have T:=tagS_any ⟨#[72,97,115,104,84,111,83,99,97,108,97,114,45]⟩ k w hk (by decide);have hz:=tagB_size ⟨#[72,97,115,104,84,111,83,99,97,108,97,114,45]⟩ k hk;have hz2:(ByteArray.mk #[72,97,115,104,84,111,83,99,97,108,97,114,45]).size=13:=rfl;have H:=fun w'=>h2sS_yes s (scaT k) w' ⟨by unfold scaT;omega,by unfold scaT;omega,hs⟩
  change Calls _ _ _ _ (fun e w'=>e= .returned (.string (scaT k))∧_) at T;unfold scaN;generalize scaT k=t at*;go_enter func61,ntmps61;go_wp2_with fail;refine T.mono ?_;rintro e w1 ⟨rfl,b1⟩;go_wp2_with fail;refine(H w1).mono ?_;rintro e w2 ⟨rfl,b2⟩;go_wp2;go_ret;exact⟨rfl,b1.tr b2⟩
end Go.Proofs.YtmjniccfjffclaaGreatDoor
