import Derived.Test.YtnfbfpegagcanaaMrg19
import Derived.Test.YtnfbfpegagcanaaMrg16
set_option linter.unusedVariables false
set_option maxRecDepth 100000
set_option maxHeartbeats 16000000
namespace Go.Proofs.Ytnfbfpegagcanaa
open Go.Proofs.Try Go.RowKit
open Go.Value (int)
open Go.IntKind (u64)
def mthS:Lt→String
  | .u=> "loop.example/s02095/impl.user"
  | .e=> "loop.example/s02095/impl.element"
  | .o=> "loop.example/s02095/impl.other"
  | .n=> "loop.example/s02095/impl.nonce"
  | .b=> "loop.example/s02095/impl.box"
  | .m=> "loop.example/s02095/impl.mac"
  | .c=> "loop.example/s02095/impl.code"
def fnV (v:Value)(q:Lt):Value:= .func (.method (mthS q)) #[v] #[]
section
variable {A:Act}{w:World}{dst:Option Tmp}{ty:TypeId}{ps:String}{af:Array Edge}{gd:Option (Nat×Bool)}{x y:Operand}{b i:Nat}
theorem mv_any {u:Value}(hx:A.eval x=u):Does prog (Opr dst (.move x) ty ps af gd) A w fun v' w'=>v'=u∧w'=w:=by
  have h:(execOp A.eval (Opr dst (.move x) ty ps af gd)).run prog w= .ok (.value u) w:=by generalize A.eval=ev at*;simp [execOp,hx,go_sem]
  exact does_value h ⟨rfl,rfl⟩
theorem nc_if {T:TypeId}{u v:Value}(hv:v= .iface T u)(hx:A.eval x=v):Does prog (Opr dst (.nilCheck x) ty ps af gd) A w fun v' w'=>v'=v∧w'=w:=by
  subst hv;have h:(execOp A.eval (Opr dst (.nilCheck x) ty ps af gd)).run prog w= .ok (.value (.iface T u)) w:=by generalize A.eval=ev at*;simp [execOp,hx,go_sem]
  exact does_value h ⟨rfl,rfl⟩
theorem mk_fn {u:Value}{s:String}(hx:A.eval x=u):Does prog (Opr dst (.makeFunc (.method s) #[x] #[]) ty ps af gd) A w fun v' w'=>v'= .func (.method s) #[u] #[]∧w'=w:=by
  have h:(execOp A.eval (Opr dst (.makeFunc (.method s) #[x] #[]) ty ps af gd)).run prog w= .ok (.value (.func (.method s) #[u] #[])) w:=by generalize A.eval=ev at*;simp [execOp,hx,go_sem,Instr.makeFunc]
  exact does_value h ⟨rfl,rfl⟩
theorem doV_as {u:Value}(hx:A.eval x=u):Does prog (Opr dst (.assign x) ty ps af gd) A w fun v' w'=>v'=u∧w'=w:=by
  have h:(execOp A.eval (Opr dst (.assign x) ty ps af gd)).run prog w= .ok (.value u) w:=by generalize A.eval=ev at*;simp [execOp,hx,go_sem]
  exact does_value h ⟨rfl,rfl⟩
theorem mk_map:Does prog (Opr dst (.makeMap 68 none) ty ps af gd) A w fun v w'=>v= .map (some w.heap.size)∧w'=w.alloc (.map #[] 0):=by
  have h:(execOp A.eval (Opr dst (.makeMap 68 none) ty ps af gd)).run prog w= .ok (.value (.map (some w.heap.size))) (w.alloc (.map #[] 0)):=by generalize A.eval=ev at*;simp [execOp,go_sem,Instr.makeMap]
  exact does_value h ⟨rfl,rfl⟩
theorem bs_0:Does prog (Opr dst (.buildSlice 67 0 #[]) ty ps af gd) A w fun v w'=>v=nv (1000+0) w.heap.size∧w'=w.alloc (.cells #[] 1):=by
  have h:(execOp A.eval (Opr dst (.buildSlice 67 0 #[]) ty ps af gd)).run prog w= .ok (.value (.slice (some ⟨w.heap.size,0,none⟩) 0 0)) (w.alloc (.cells #[] 1)):=by generalize A.eval=ev at*;simp [execOp,go_sem]
  exact does_value h ⟨rfl,rfl⟩
theorem bs_1 {x0:Operand}{s0:String}{u0:Value}(h0:A.eval x0= .func (.method s0) #[u0] #[]):Does prog (Opr dst (.buildSlice 67 1 #[(0,x0)]) ty ps af gd) A w fun v w'=>v=nv (1000+1) w.heap.size∧w'=w.alloc (.cells #[.func (.method s0) #[u0] #[]] 1):=by
  have h:(execOp A.eval (Opr dst (.buildSlice 67 1 #[(0,x0)]) ty ps af gd)).run prog w= .ok (.value (.slice (some ⟨w.heap.size,0,none⟩) 1 1)) (w.alloc (.cells #[.func (.method s0) #[u0] #[]] 1)):=by generalize A.eval=ev at*;simp [execOp,h0,go_sem]
  exact does_value h ⟨rfl,rfl⟩
theorem bs_2 {x0:Operand}{x1:Operand}{s0:String}{u0:Value}{s1:String}{u1:Value}(h0:A.eval x0= .func (.method s0) #[u0] #[])(h1:A.eval x1= .func (.method s1) #[u1] #[]):Does prog (Opr dst (.buildSlice 67 2 #[(0,x0),(1,x1)]) ty ps af gd) A w fun v w'=>v=nv (1000+2) w.heap.size∧w'=w.alloc (.cells #[.func (.method s0) #[u0] #[],.func (.method s1) #[u1] #[]] 1):=by
  have h:(execOp A.eval (Opr dst (.buildSlice 67 2 #[(0,x0),(1,x1)]) ty ps af gd)).run prog w= .ok (.value (.slice (some ⟨w.heap.size,0,none⟩) 2 2)) (w.alloc (.cells #[.func (.method s0) #[u0] #[],.func (.method s1) #[u1] #[]] 1)):=by generalize A.eval=ev at*;simp [execOp,h0,h1,go_sem]
  exact does_value h ⟨rfl,rfl⟩
theorem bs_3 {x0:Operand}{x1:Operand}{x2:Operand}{s0:String}{u0:Value}{s1:String}{u1:Value}{s2:String}{u2:Value}(h0:A.eval x0= .func (.method s0) #[u0] #[])(h1:A.eval x1= .func (.method s1) #[u1] #[])(h2:A.eval x2= .func (.method s2) #[u2] #[]):Does prog (Opr dst (.buildSlice 67 3 #[(0,x0),(1,x1),(2,x2)]) ty ps af gd) A w fun v w'=>v=nv (1000+3) w.heap.size∧w'=w.alloc (.cells #[.func (.method s0) #[u0] #[],.func (.method s1) #[u1] #[],.func (.method s2) #[u2] #[]] 1):=by
  have h:(execOp A.eval (Opr dst (.buildSlice 67 3 #[(0,x0),(1,x1),(2,x2)]) ty ps af gd)).run prog w= .ok (.value (.slice (some ⟨w.heap.size,0,none⟩) 3 3)) (w.alloc (.cells #[.func (.method s0) #[u0] #[],.func (.method s1) #[u1] #[],.func (.method s2) #[u2] #[]] 1)):=by generalize A.eval=ev at*;simp [execOp,h0,h1,h2,go_sem]
  exact does_value h ⟨rfl,rfl⟩
theorem bs_4 {x0:Operand}{x1:Operand}{x2:Operand}{x3:Operand}{s0:String}{u0:Value}{s1:String}{u1:Value}{s2:String}{u2:Value}{s3:String}{u3:Value}(h0:A.eval x0= .func (.method s0) #[u0] #[])(h1:A.eval x1= .func (.method s1) #[u1] #[])(h2:A.eval x2= .func (.method s2) #[u2] #[])(h3:A.eval x3= .func (.method s3) #[u3] #[]):Does prog (Opr dst (.buildSlice 67 4 #[(0,x0),(1,x1),(2,x2),(3,x3)]) ty ps af gd) A w fun v w'=>v=nv (1000+4) w.heap.size∧w'=w.alloc (.cells #[.func (.method s0) #[u0] #[],.func (.method s1) #[u1] #[],.func (.method s2) #[u2] #[],.func (.method s3) #[u3] #[]] 1):=by
  have h:(execOp A.eval (Opr dst (.buildSlice 67 4 #[(0,x0),(1,x1),(2,x2),(3,x3)]) ty ps af gd)).run prog w= .ok (.value (.slice (some ⟨w.heap.size,0,none⟩) 4 4)) (w.alloc (.cells #[.func (.method s0) #[u0] #[],.func (.method s1) #[u1] #[],.func (.method s2) #[u2] #[],.func (.method s3) #[u3] #[]] 1)):=by generalize A.eval=ev at*;simp [execOp,h0,h1,h2,h3,go_sem]
  exact does_value h ⟨rfl,rfl⟩
theorem bs_5 {x0:Operand}{x1:Operand}{x2:Operand}{x3:Operand}{x4:Operand}{s0:String}{u0:Value}{s1:String}{u1:Value}{s2:String}{u2:Value}{s3:String}{u3:Value}{s4:String}{u4:Value}(h0:A.eval x0= .func (.method s0) #[u0] #[])(h1:A.eval x1= .func (.method s1) #[u1] #[])(h2:A.eval x2= .func (.method s2) #[u2] #[])(h3:A.eval x3= .func (.method s3) #[u3] #[])(h4:A.eval x4= .func (.method s4) #[u4] #[]):Does prog (Opr dst (.buildSlice 67 5 #[(0,x0),(1,x1),(2,x2),(3,x3),(4,x4)]) ty ps af gd) A w fun v w'=>v=nv (1000+5) w.heap.size∧w'=w.alloc (.cells #[.func (.method s0) #[u0] #[],.func (.method s1) #[u1] #[],.func (.method s2) #[u2] #[],.func (.method s3) #[u3] #[],.func (.method s4) #[u4] #[]] 1):=by
  have h:(execOp A.eval (Opr dst (.buildSlice 67 5 #[(0,x0),(1,x1),(2,x2),(3,x3),(4,x4)]) ty ps af gd)).run prog w= .ok (.value (.slice (some ⟨w.heap.size,0,none⟩) 5 5)) (w.alloc (.cells #[.func (.method s0) #[u0] #[],.func (.method s1) #[u1] #[],.func (.method s2) #[u2] #[],.func (.method s3) #[u3] #[],.func (.method s4) #[u4] #[]] 1)):=by generalize A.eval=ev at*;simp [execOp,h0,h1,h2,h3,h4,go_sem]
  exact does_value h ⟨rfl,rfl⟩
theorem find_no (key:Int):∀(es:List MapEntry) (i:Nat),(∀e∈es,∃k',e.key= .int .i64 k'∧k'≠key)→Instr.findNow (.int .i64) (.int .i64 key) es i=some none
  | [],_,_=>rfl
  | e::es,i,h=>by
    obtain⟨k',h1,h2⟩:=h e (by simp);have hn:(key==k')=false:=by simpa using fun h=>h2 h.symm
    simp only [Instr.findNow,h1,Instr.sameNow,if_true,hn];exact find_no key es (i+1) (fun e he=>h e (by simp [he]))
theorem find_yes (key:Int)(u:Value):∀(es:List MapEntry) (i:Nat),(∀e∈es,∃k',e.key= .int .i64 k'∧(k'=key→e.val=u))→(∃e∈es,e.key= .int .i64 key)→∃j,Instr.findNow (.int .i64) (.int .i64 key) es i=some (some (j,u))
  | [],_,_,h=>by obtain⟨e,he,-⟩:=h;cases he
  | e ::es,i,h,h2=>by
    obtain⟨k',h1,h3⟩:=h e (by simp);by_cases hk:key=k'
    · subst hk;refine⟨i,?_⟩;simp only [Instr.findNow,h1,Instr.sameNow,if_true,beq_self_eq_true,h3 rfl]
    · have hn:(key==k')=false:=by simpa using hk
      obtain⟨e2,he2,h4⟩:=h2
      have he3:e2∈es:=by
        rcases List.mem_cons.1 he2 with rfl|h5
        · rw [h1] at h4;injection h4 with _ h4;exact absurd h4.symm hk
        · exact h5
      obtain⟨j,hj⟩:=find_yes key u es (i+1) (fun e he=>h e (by simp [he])) ⟨e2,he3,h4⟩;exact⟨j,by simp only [Instr.findNow,h1,Instr.sameNow,if_true,hn];exact hj⟩
theorem in_map {m k v:Operand}{g:Nat}{key:Int}{u:Value}{es:Array MapEntry}{clk:Nat}(h0:A.eval m= .map (some g))(h1:A.eval k= .int .i64 key)(h2:A.eval v=u)(hg:w.heap[g]? =some (.map es clk))(hk:∀e∈es.toList,∃k',e.key= .int .i64 k'∧k'≠key):
    Does prog (Opr dst (.insert 68 m k v) ty ps af gd) A w fun _ w'=>Turned g (.map (es.push ⟨.int .i64 key,u,clk⟩) (clk+1)) w w':=by
  have hf:=find_no key es.toList 0 hk
  have hb:(Instr.mapUpdate 68 (.map (some g)) (.int .i64 key) u).run prog w= .ok () {w with heap:=w.heap.setIfInBounds g (.map (es.push ⟨.int .i64 key,u,clk⟩) (clk+1))}:=by
    simp [Instr.mapUpdate,run_underlying underlying68,MapKept.run_getObj_map hg,MapKept.run_checkKey underlying3 (k:= .int .i64 key) rfl,MapKept.run_findKey underlying3 hf,MapKept.run_setObj_map _ hg,Result.andThen]
  have h:(execOp A.eval (Opr dst (.insert 68 m k v) ty ps af gd)).run prog w= .ok .skip {w with heap:=w.heap.setIfInBounds g (.map (es.push ⟨.int .i64 key,u,clk⟩) (clk+1))}:=by
    generalize A.eval=ev at*;simp [execOp,h0,h1,h2,hb,Result.andThen]
  have hh:=MapKept.heap_set (o':= .map (es.push ⟨.int .i64 key,u,clk⟩) (clk+1)) hg;exact does_skip h ⟨rfl,rfl,rfl,by simp,hh.1,hh.2⟩
end
section
open G
variable {P:Program}{ops:Array Oper}{kind:Nat→G.Knd}{a0:Act}{uses:Nat→List Nat}{ins:List G.Ent}{i:Nat}{o:Oper}
theorem mob_val {v:Value}(l:List (Nat×Value))(ho:ops[i]? =some o)(hk:kind i= .val v)(h0:i≠0)(hq:∀q∈ins,q.op≠i)(hi:∀f,(uses i).map (fun t=>(t,G.look ops kind a0 f i t))=l)
    (h:∀A w,Evs A l→Does P o A w fun v' w'=>v'=v∧w'=w):G.MOb ins P ops kind uses a0 i:=by
  intro o' ho';rw [ho] at ho';cases ho';rw [hk];exact⟨h0,hq,fun f A w hA=>h A w (hi f▸evs_of _ hA)⟩
theorem mob_new {ob ob':Obj}(n:Nat)(l:List (Nat×Value))(ho:ops[i]? =some o)(hk:kind i= .new ob ob' (1000+n))(h0:i≠0)(hq:∀q∈ins,q.op≠i)(hc:∃c t z,ob= .cells c t z)(hi:∀f,(uses i).map (fun t=>(t,G.look ops kind a0 f i t))=l)
    (h:∀A w,Evs A l→Does P o A w fun v w'=>v=nv (1000+n) w.heap.size∧w'=w.alloc ob):G.MOb ins P ops kind uses a0 i:=by
  intro o' ho';rw [ho] at ho';cases ho';rw [hk];exact⟨h0,hq,hc,fun f A w hA=>h A w (hi f▸evs_of _ hA)⟩
theorem mob_map {R:Nat→World→Prop}(ho:ops[0]? =some o)(hk:kind 0= .got (fun x=> .map (some x)) R)(hq:∀q∈ins,q.op≠0)
    (h:∀A w,Does P o A w fun v w'=>v= .map (some w.heap.size)∧w'=w.alloc (.map #[] 0)):G.MOb ins P ops kind uses a0 0:=by
  intro o' ho';rw [ho] at ho';cases ho';rw [hk];exact⟨rfl,hq,rfl,h⟩
theorem mob_put {j:Nat}(q:G.Ent)(l:(Nat→Nat)→List (Nat×Value))(ho:ops[i]? =some o)(hk:kind i= .put j)(hq:q∈ins)(hqi:q.op=i)(h0:i≠0)(hd:o.dst=none)(hm:∃t∈uses i,ownOf ops t=some 0)(hb:∃t∈uses i,ownOf ops t=some q.bld)(hl:q.bld<i)(hi:∀f,(uses i).map (fun t=>(t,G.look ops kind a0 f i t))=l f)
    (h:∀f A w es clk,Evs A (l f)→w.heap[f 0]? =some (.map es clk)→(∀e∈es.toList,∃k',e.key= .int .i64 k'∧k'≠q.key)→Does P o A w fun _ w'=>Turned (f 0) (.map (es.push ⟨.int .i64 q.key,nv q.k (f q.bld),clk⟩) (clk+1)) w w'):G.MOb ins P ops kind uses a0 i:=by
  intro o' ho';rw [ho] at ho';cases ho';rw [hk];exact⟨q,hq,hqi,h0,hd,hm,hb,hl,fun f A w es clk hA=>h f A w es clk (hi f▸evs_of _ hA)⟩
end
def entS:List G.Ent:= [⟨8,7,1,1002⟩,⟨13,12,2,1001⟩,⟨24,23,3,1003⟩,⟨38,37,4,1004⟩,⟨55,54,5,1005⟩,⟨60,59,6,1001⟩,⟨62,61,7,1000⟩,⟨67,66,8,1001⟩]
theorem ent_key:∀q∈entS,1≤q.key∧q.key≤8:=by decide
theorem sm_at {es:Array MapEntry}{f:Nat→Nat}(hI:G.MapIs entS (upto 70 68) f es)(q:G.Ent)(hq:q∈entS)(hun:∀r∈entS,r.key=q.key→r=q)(hop:q.op<68):∃j,Instr.findNow (.int .i64) (.int .i64 q.key) es.toList 0=some (some (j,nv q.k (f q.bld))):=by
  refine find_yes q.key _ _ 0 (fun e he=> ?_) (hI.whole q hq ?_)
  · obtain⟨r,g1,-,g3,g4⟩:=hI.sound e he;refine⟨r.key,g3,fun e=> ?_⟩;rw [g4,hun r g1 e]
  · rw [upto_getD,decide_eq_true (by omega),decide_eq_true hop];rfl
theorem ins_ne0:∀q∈entS,q.op≠0:=by decide
def SM (v:Value)(base:Nat)(w:World)(g:Nat):Prop:=base≤g∧∃es clk,w.heap[g]? =some (.map es clk)∧∀k:Int,
  if kindB k=true then∃j b,base≤b∧Instr.findNow (.int .i64) (.int .i64 k) es.toList 0=some (some (j,.slice (some ⟨b,0,none⟩) (flds k).length (flds k).length))∧w.heap[b]? =some (.cells ((flds k).map (fnV v)).toArray 1)
  else Instr.findNow (.int .i64) (.int .i64 k) es.toList 0=some none
theorem SM.keep {v:Value}{base:Nat}{w w':World}{g:Nat}(h:SM v base w g)(hb:Bl w w'):SM v base w' g:=by
  obtain⟨h0,es,clk,h1,h2⟩:=h;have old:∀{x o},w.heap[x]? =some o→w'.heap[x]? =some o:=fun {x o} hx=>(hb.block x (Array.getElem?_eq_some_iff.1 hx).1).trans hx
  refine⟨h0,es,clk,old h1,fun k=> ?_⟩;have:=h2 k;split
  · rename_i hk
    rw [if_pos hk] at this;obtain⟨j,b,g1,g2,g3⟩:=this;exact⟨j,b,g1,g2,old g3⟩
  · rename_i hk
    rwa [if_neg hk] at this
theorem stpI (T:TypeId)(x:Value)(w:World):
    Calls prog 39 #[.iface T x] w fun e w'=>∃g,e= .returned (.map (some g))∧Bl w w'∧SM (.iface T x) w.heap.size w' g:=by
  obtain⟨v,hv⟩:∃v,v=(.iface T x:Value):=⟨_,rfl⟩;go_enter func39,ntmps39;go_wp2;rw [←hv]
  refine G.pool_map (W:=w) 68 entS [.got (fun x=> .map (some x)) (fun _ _=>True),
      .val v,
      .val v,
      .val (fnV v .u),
      .val v,
      .val v,
      .val (fnV v .e),
      .new (.cells #[fnV v .u,fnV v .e] 1) (.cells #[fnV v .u,fnV v .e] 1) 1002,
      .put 0,
      .val v,
      .val v,
      .val (fnV v .e),
      .new (.cells #[fnV v .e] 1) (.cells #[fnV v .e] 1) 1001,
      .put 0,
      .val v,
      .val v,
      .val (fnV v .u),
      .val v,
      .val v,
      .val (fnV v .o),
      .val v,
      .val v,
      .val (fnV v .b),
      .new (.cells #[fnV v .u,fnV v .o,fnV v .b] 1) (.cells #[fnV v .u,fnV v .o,fnV v .b] 1) 1003,
      .put 0,
      .val v,
      .val v,
      .val (fnV v .u),
      .val v,
      .val v,
      .val (fnV v .e),
      .val v,
      .val v,
      .val (fnV v .o),
      .val v,
      .val v,
      .val (fnV v .n),
      .new (.cells #[fnV v .u,fnV v .e,fnV v .o,fnV v .n] 1) (.cells #[fnV v .u,fnV v .e,fnV v .o,fnV v .n] 1) 1004,
      .put 0,
      .val v,
      .val v,
      .val (fnV v .e),
      .val v,
      .val v,
      .val (fnV v .o),
      .val v,
      .val v,
      .val (fnV v .n),
      .val v,
      .val v,
      .val (fnV v .b),
      .val v,
      .val v,
      .val (fnV v .m),
      .new (.cells #[fnV v .e,fnV v .o,fnV v .n,fnV v .b,fnV v .m] 1) (.cells #[fnV v .e,fnV v .o,fnV v .n,fnV v .b,fnV v .m] 1) 1005,
      .put 0,
      .val v,
      .val v,
      .val (fnV v .m),
      .new (.cells #[fnV v .m] 1) (.cells #[fnV v .m] 1) 1001,
      .put 0,
      .new (.cells #[] 1) (.cells #[] 1) 1000,
      .put 0,
      .val v,
      .val v,
      .val (fnV v .c),
      .new (.cells #[fnV v .c] 1) (.cells #[fnV v .c] 1) 1001,
      .put 0] [[],[0],[4],[5],[0],[7],[8],[6,9],[3,10],[0],[11],[12],[13],[3,14],[0],[15],[16],[0],[18],[19],[0],[21],[22],[17,20,23],[3,24],[0],[25],[26],[0],[28],[29],[0],[31],[32],[0],[34],[35],[27,30,33,36],[3,37],[0],[38],[39],[0],[41],[42],[0],[44],[45],[0],[47],[48],[0],[50],[51],[40,43,46,49,52],[3,53],[0],[54],[55],[56],[3,57],[],[3,58],[0],[59],[60],[61],[3,62]] (fun f=> [(some 3,.map (some (f 0))),(some 4,v),(some 5,v),(some 6,fnV v .u),(some 7,v),(some 8,v),(some 9,fnV v .e),(some 10,.slice (some ⟨f 7,0,none⟩) 2 2),(none,undef),(some 11,v),(some 12,v),(some 13,fnV v .e),(some 14,.slice (some ⟨f 12,0,none⟩) 1 1),(none,undef),(some 15,v),(some 16,v),(some 17,fnV v .u),(some 18,v),(some 19,v),(some 20,fnV v .o),(some 21,v),(some 22,v),(some 23,fnV v .b),(some 24,.slice (some ⟨f 23,0,none⟩) 3 3),(none,undef),(some 25,v),(some 26,v),(some 27,fnV v .u),(some 28,v),(some 29,v),(some 30,fnV v .e),(some 31,v),(some 32,v),(some 33,fnV v .o),(some 34,v),(some 35,v),(some 36,fnV v .n),(some 37,.slice (some ⟨f 37,0,none⟩) 4 4),(none,undef),(some 38,v),(some 39,v),(some 40,fnV v .e),(some 41,v),(some 42,v),(some 43,fnV v .o),(some 44,v),(some 45,v),(some 46,fnV v .n),(some 47,v),(some 48,v),(some 49,fnV v .b),(some 50,v),(some 51,v),(some 52,fnV v .m),(some 53,.slice (some ⟨f 54,0,none⟩) 5 5),(none,undef),(some 54,v),(some 55,v),(some 56,fnV v .m),(some 57,.slice (some ⟨f 59,0,none⟩) 1 1),(none,undef),(some 58,.slice (some ⟨f 61,0,none⟩) 0 0),(none,undef),(some 59,v),(some 60,v),(some 61,fnV v .c),(some 62,.slice (some ⟨f 66,0,none⟩) 1 1),(none,undef)]) (by kernel_rfl) (by kernel_rfl) (by kernel_rfl) (by kernel_rfl) (by kernel_rfl) (by kernel_rfl) (by kernel_rfl) (by kernel_rfl) (fun _=>by kernel_rfl) ?_ (by decide) ?_
  · intro ix hix
    match ix,hix with
    |0,_=>exact mob_map rfl rfl ins_ne0 (fun A w=>mk_map)
    |1,_=>exact mob_val [(0,v)] rfl rfl (by decide) (by decide) (fun _=>by kernel_rfl) (fun A w ⟨e0,_⟩=>mv_any e0)
    |2,_=>exact mob_val [(4,v)] rfl rfl (by decide) (by decide) (fun _=>by kernel_rfl) (fun A w ⟨e0,_⟩=>nc_if hv e0)
    |3,_=>exact mob_val [(5,v)] rfl rfl (by decide) (by decide) (fun _=>by kernel_rfl) (fun A w ⟨e0,_⟩=>mk_fn e0)
    |4,_=>exact mob_val [(0,v)] rfl rfl (by decide) (by decide) (fun _=>by kernel_rfl) (fun A w ⟨e0,_⟩=>mv_any e0)
    |5,_=>exact mob_val [(7,v)] rfl rfl (by decide) (by decide) (fun _=>by kernel_rfl) (fun A w ⟨e0,_⟩=>nc_if hv e0)
    |6,_=>exact mob_val [(8,v)] rfl rfl (by decide) (by decide) (fun _=>by kernel_rfl) (fun A w ⟨e0,_⟩=>mk_fn e0)
    |7,_=>exact mob_new 2 [(6,fnV v .u),(9,fnV v .e)] rfl rfl (by decide) (by decide) ⟨_,_,_,rfl⟩ (fun _=>by kernel_rfl) (fun A w ⟨e0,e1,_⟩=>bs_2 e0 e1)
    |8,_=>exact mob_put ⟨8,7,1,1002⟩ (fun f=> [(3,.map (some (f 0))),(10,.slice (some ⟨f 7,0,none⟩) 2 2)]) rfl rfl (by decide) rfl (by decide) rfl ⟨3,by decide,by kernel_rfl⟩ ⟨10,by decide,by kernel_rfl⟩ (by decide) (fun _=>by kernel_rfl) (fun f A w es clk ⟨e0,e1,_⟩ h0 hk=>in_map e0 rfl e1 h0 hk)
    |9,_=>exact mob_val [(0,v)] rfl rfl (by decide) (by decide) (fun _=>by kernel_rfl) (fun A w ⟨e0,_⟩=>mv_any e0)
    |10,_=>exact mob_val [(11,v)] rfl rfl (by decide) (by decide) (fun _=>by kernel_rfl) (fun A w ⟨e0,_⟩=>nc_if hv e0)
    |11,_=>exact mob_val [(12,v)] rfl rfl (by decide) (by decide) (fun _=>by kernel_rfl) (fun A w ⟨e0,_⟩=>mk_fn e0)
    |12,_=>exact mob_new 1 [(13,fnV v .e)] rfl rfl (by decide) (by decide) ⟨_,_,_,rfl⟩ (fun _=>by kernel_rfl) (fun A w ⟨e0,_⟩=>bs_1 e0)
    |13,_=>exact mob_put ⟨13,12,2,1001⟩ (fun f=> [(3,.map (some (f 0))),(14,.slice (some ⟨f 12,0,none⟩) 1 1)]) rfl rfl (by decide) rfl (by decide) rfl ⟨3,by decide,by kernel_rfl⟩ ⟨14,by decide,by kernel_rfl⟩ (by decide) (fun _=>by kernel_rfl) (fun f A w es clk ⟨e0,e1,_⟩ h0 hk=>in_map e0 rfl e1 h0 hk)
    |14,_=>exact mob_val [(0,v)] rfl rfl (by decide) (by decide) (fun _=>by kernel_rfl) (fun A w ⟨e0,_⟩=>mv_any e0)
    |15,_=>exact mob_val [(15,v)] rfl rfl (by decide) (by decide) (fun _=>by kernel_rfl) (fun A w ⟨e0,_⟩=>nc_if hv e0)
    |16,_=>exact mob_val [(16,v)] rfl rfl (by decide) (by decide) (fun _=>by kernel_rfl) (fun A w ⟨e0,_⟩=>mk_fn e0)
    |17,_=>exact mob_val [(0,v)] rfl rfl (by decide) (by decide) (fun _=>by kernel_rfl) (fun A w ⟨e0,_⟩=>mv_any e0)
    |18,_=>exact mob_val [(18,v)] rfl rfl (by decide) (by decide) (fun _=>by kernel_rfl) (fun A w ⟨e0,_⟩=>nc_if hv e0)
    |19,_=>exact mob_val [(19,v)] rfl rfl (by decide) (by decide) (fun _=>by kernel_rfl) (fun A w ⟨e0,_⟩=>mk_fn e0)
    |20,_=>exact mob_val [(0,v)] rfl rfl (by decide) (by decide) (fun _=>by kernel_rfl) (fun A w ⟨e0,_⟩=>mv_any e0)
    |21,_=>exact mob_val [(21,v)] rfl rfl (by decide) (by decide) (fun _=>by kernel_rfl) (fun A w ⟨e0,_⟩=>nc_if hv e0)
    |22,_=>exact mob_val [(22,v)] rfl rfl (by decide) (by decide) (fun _=>by kernel_rfl) (fun A w ⟨e0,_⟩=>mk_fn e0)
    |23,_=>exact mob_new 3 [(17,fnV v .u),(20,fnV v .o),(23,fnV v .b)] rfl rfl (by decide) (by decide) ⟨_,_,_,rfl⟩ (fun _=>by kernel_rfl) (fun A w ⟨e0,e1,e2,_⟩=>bs_3 e0 e1 e2)
    |24,_=>exact mob_put ⟨24,23,3,1003⟩ (fun f=> [(3,.map (some (f 0))),(24,.slice (some ⟨f 23,0,none⟩) 3 3)]) rfl rfl (by decide) rfl (by decide) rfl ⟨3,by decide,by kernel_rfl⟩ ⟨24,by decide,by kernel_rfl⟩ (by decide) (fun _=>by kernel_rfl) (fun f A w es clk ⟨e0,e1,_⟩ h0 hk=>in_map e0 rfl e1 h0 hk)
    |25,_=>exact mob_val [(0,v)] rfl rfl (by decide) (by decide) (fun _=>by kernel_rfl) (fun A w ⟨e0,_⟩=>mv_any e0)
    |26,_=>exact mob_val [(25,v)] rfl rfl (by decide) (by decide) (fun _=>by kernel_rfl) (fun A w ⟨e0,_⟩=>nc_if hv e0)
    |27,_=>exact mob_val [(26,v)] rfl rfl (by decide) (by decide) (fun _=>by kernel_rfl) (fun A w ⟨e0,_⟩=>mk_fn e0)
    |28,_=>exact mob_val [(0,v)] rfl rfl (by decide) (by decide) (fun _=>by kernel_rfl) (fun A w ⟨e0,_⟩=>mv_any e0)
    |29,_=>exact mob_val [(28,v)] rfl rfl (by decide) (by decide) (fun _=>by kernel_rfl) (fun A w ⟨e0,_⟩=>nc_if hv e0)
    |30,_=>exact mob_val [(29,v)] rfl rfl (by decide) (by decide) (fun _=>by kernel_rfl) (fun A w ⟨e0,_⟩=>mk_fn e0)
    |31,_=>exact mob_val [(0,v)] rfl rfl (by decide) (by decide) (fun _=>by kernel_rfl) (fun A w ⟨e0,_⟩=>mv_any e0)
    |32,_=>exact mob_val [(31,v)] rfl rfl (by decide) (by decide) (fun _=>by kernel_rfl) (fun A w ⟨e0,_⟩=>nc_if hv e0)
    |33,_=>exact mob_val [(32,v)] rfl rfl (by decide) (by decide) (fun _=>by kernel_rfl) (fun A w ⟨e0,_⟩=>mk_fn e0)
    |34,_=>exact mob_val [(0,v)] rfl rfl (by decide) (by decide) (fun _=>by kernel_rfl) (fun A w ⟨e0,_⟩=>mv_any e0)
    |35,_=>exact mob_val [(34,v)] rfl rfl (by decide) (by decide) (fun _=>by kernel_rfl) (fun A w ⟨e0,_⟩=>nc_if hv e0)
    |36,_=>exact mob_val [(35,v)] rfl rfl (by decide) (by decide) (fun _=>by kernel_rfl) (fun A w ⟨e0,_⟩=>mk_fn e0)
    |37,_=>exact mob_new 4 [(27,fnV v .u),(30,fnV v .e),(33,fnV v .o),(36,fnV v .n)] rfl rfl (by decide) (by decide) ⟨_,_,_,rfl⟩ (fun _=>by kernel_rfl) (fun A w ⟨e0,e1,e2,e3,_⟩=>bs_4 e0 e1 e2 e3)
    |38,_=>exact mob_put ⟨38,37,4,1004⟩ (fun f=> [(3,.map (some (f 0))),(37,.slice (some ⟨f 37,0,none⟩) 4 4)]) rfl rfl (by decide) rfl (by decide) rfl ⟨3,by decide,by kernel_rfl⟩ ⟨37,by decide,by kernel_rfl⟩ (by decide) (fun _=>by kernel_rfl) (fun f A w es clk ⟨e0,e1,_⟩ h0 hk=>in_map e0 rfl e1 h0 hk)
    |39,_=>exact mob_val [(0,v)] rfl rfl (by decide) (by decide) (fun _=>by kernel_rfl) (fun A w ⟨e0,_⟩=>mv_any e0)
    |40,_=>exact mob_val [(38,v)] rfl rfl (by decide) (by decide) (fun _=>by kernel_rfl) (fun A w ⟨e0,_⟩=>nc_if hv e0)
    |41,_=>exact mob_val [(39,v)] rfl rfl (by decide) (by decide) (fun _=>by kernel_rfl) (fun A w ⟨e0,_⟩=>mk_fn e0)
    |42,_=>exact mob_val [(0,v)] rfl rfl (by decide) (by decide) (fun _=>by kernel_rfl) (fun A w ⟨e0,_⟩=>mv_any e0)
    |43,_=>exact mob_val [(41,v)] rfl rfl (by decide) (by decide) (fun _=>by kernel_rfl) (fun A w ⟨e0,_⟩=>nc_if hv e0)
    |44,_=>exact mob_val [(42,v)] rfl rfl (by decide) (by decide) (fun _=>by kernel_rfl) (fun A w ⟨e0,_⟩=>mk_fn e0)
    |45,_=>exact mob_val [(0,v)] rfl rfl (by decide) (by decide) (fun _=>by kernel_rfl) (fun A w ⟨e0,_⟩=>mv_any e0)
    |46,_=>exact mob_val [(44,v)] rfl rfl (by decide) (by decide) (fun _=>by kernel_rfl) (fun A w ⟨e0,_⟩=>nc_if hv e0)
    |47,_=>exact mob_val [(45,v)] rfl rfl (by decide) (by decide) (fun _=>by kernel_rfl) (fun A w ⟨e0,_⟩=>mk_fn e0)
    |48,_=>exact mob_val [(0,v)] rfl rfl (by decide) (by decide) (fun _=>by kernel_rfl) (fun A w ⟨e0,_⟩=>mv_any e0)
    |49,_=>exact mob_val [(47,v)] rfl rfl (by decide) (by decide) (fun _=>by kernel_rfl) (fun A w ⟨e0,_⟩=>nc_if hv e0)
    |50,_=>exact mob_val [(48,v)] rfl rfl (by decide) (by decide) (fun _=>by kernel_rfl) (fun A w ⟨e0,_⟩=>mk_fn e0)
    |51,_=>exact mob_val [(0,v)] rfl rfl (by decide) (by decide) (fun _=>by kernel_rfl) (fun A w ⟨e0,_⟩=>mv_any e0)
    |52,_=>exact mob_val [(50,v)] rfl rfl (by decide) (by decide) (fun _=>by kernel_rfl) (fun A w ⟨e0,_⟩=>nc_if hv e0)
    |53,_=>exact mob_val [(51,v)] rfl rfl (by decide) (by decide) (fun _=>by kernel_rfl) (fun A w ⟨e0,_⟩=>mk_fn e0)
    |54,_=>exact mob_new 5 [(40,fnV v .e),(43,fnV v .o),(46,fnV v .n),(49,fnV v .b),(52,fnV v .m)] rfl rfl (by decide) (by decide) ⟨_,_,_,rfl⟩ (fun _=>by kernel_rfl) (fun A w ⟨e0,e1,e2,e3,e4,_⟩=>bs_5 e0 e1 e2 e3 e4)
    |55,_=>exact mob_put ⟨55,54,5,1005⟩ (fun f=> [(3,.map (some (f 0))),(53,.slice (some ⟨f 54,0,none⟩) 5 5)]) rfl rfl (by decide) rfl (by decide) rfl ⟨3,by decide,by kernel_rfl⟩ ⟨53,by decide,by kernel_rfl⟩ (by decide) (fun _=>by kernel_rfl) (fun f A w es clk ⟨e0,e1,_⟩ h0 hk=>in_map e0 rfl e1 h0 hk)
    |56,_=>exact mob_val [(0,v)] rfl rfl (by decide) (by decide) (fun _=>by kernel_rfl) (fun A w ⟨e0,_⟩=>mv_any e0)
    |57,_=>exact mob_val [(54,v)] rfl rfl (by decide) (by decide) (fun _=>by kernel_rfl) (fun A w ⟨e0,_⟩=>nc_if hv e0)
    |58,_=>exact mob_val [(55,v)] rfl rfl (by decide) (by decide) (fun _=>by kernel_rfl) (fun A w ⟨e0,_⟩=>mk_fn e0)
    |59,_=>exact mob_new 1 [(56,fnV v .m)] rfl rfl (by decide) (by decide) ⟨_,_,_,rfl⟩ (fun _=>by kernel_rfl) (fun A w ⟨e0,_⟩=>bs_1 e0)
    |60,_=>exact mob_put ⟨60,59,6,1001⟩ (fun f=> [(3,.map (some (f 0))),(57,.slice (some ⟨f 59,0,none⟩) 1 1)]) rfl rfl (by decide) rfl (by decide) rfl ⟨3,by decide,by kernel_rfl⟩ ⟨57,by decide,by kernel_rfl⟩ (by decide) (fun _=>by kernel_rfl) (fun f A w es clk ⟨e0,e1,_⟩ h0 hk=>in_map e0 rfl e1 h0 hk)
    |61,_=>exact mob_new 0 [] rfl rfl (by decide) (by decide) ⟨_,_,_,rfl⟩ (fun _=>by kernel_rfl) (fun A w _=>bs_0)
    |62,_=>exact mob_put ⟨62,61,7,1000⟩ (fun f=> [(3,.map (some (f 0))),(58,.slice (some ⟨f 61,0,none⟩) 0 0)]) rfl rfl (by decide) rfl (by decide) rfl ⟨3,by decide,by kernel_rfl⟩ ⟨58,by decide,by kernel_rfl⟩ (by decide) (fun _=>by kernel_rfl) (fun f A w es clk ⟨e0,e1,_⟩ h0 hk=>in_map e0 rfl e1 h0 hk)
    |63,_=>exact mob_val [(0,v)] rfl rfl (by decide) (by decide) (fun _=>by kernel_rfl) (fun A w ⟨e0,_⟩=>mv_any e0)
    |64,_=>exact mob_val [(59,v)] rfl rfl (by decide) (by decide) (fun _=>by kernel_rfl) (fun A w ⟨e0,_⟩=>nc_if hv e0)
    |65,_=>exact mob_val [(60,v)] rfl rfl (by decide) (by decide) (fun _=>by kernel_rfl) (fun A w ⟨e0,_⟩=>mk_fn e0)
    |66,_=>exact mob_new 1 [(61,fnV v .c)] rfl rfl (by decide) (by decide) ⟨_,_,_,rfl⟩ (fun _=>by kernel_rfl) (fun A w ⟨e0,_⟩=>bs_1 e0)
    |67,_=>exact mob_put ⟨67,66,8,1001⟩ (fun f=> [(3,.map (some (f 0))),(62,.slice (some ⟨f 66,0,none⟩) 1 1)]) rfl rfl (by decide) rfl (by decide) rfl ⟨3,by decide,by kernel_rfl⟩ ⟨62,by decide,by kernel_rfl⟩ (by decide) (fun _=>by kernel_rfl) (fun f A w es clk ⟨e0,e1,_⟩ h0 hk=>in_map e0 rfl e1 h0 hk)
    |ix+68,h=>exact absurd h (by omega)
  intro f W1 es clk hB hN h0 hM hI fuel hfu;simp only [puts,List.foldl,Act.put,List.setIfInBounds_toArray,List.set_cons_zero,List.set_cons_succ];refine last_do2 68 69 hfu (by kernel_rfl) (by kernel_rfl) (by kernel_rfl) rfl rfl rfl rfl (mv_any (u:= .map (some (f 0))) rfl) ?_;rintro v1 w1 ⟨rfl,rfl⟩;refine fun Q K hK=>doV_as (u:= .map (some (f 0))) rfl Q K (fun v w' e=>hK v w' ?_)
  obtain⟨rfl,rfl⟩:=e;go_wp2;go_ret;rw [←hv];refine⟨f 0,rfl,(Below.refl _ w).drew.trans hB,h0,es,clk,hM,fun k=> ?_⟩;split
  · rename_i hk
    rcases kind_cases hk with rfl|rfl|rfl|rfl|rfl|rfl|rfl|rfl
    · obtain⟨j,hj⟩:=sm_at hI ⟨8,7,1,1002⟩ (by decide) (by decide) (by decide);obtain⟨g1,g2⟩:=hN 7 _ _ _ rfl (by decide);exact⟨j,f 7,g1,hj,g2⟩
    · obtain⟨j,hj⟩:=sm_at hI ⟨13,12,2,1001⟩ (by decide) (by decide) (by decide);obtain⟨g1,g2⟩:=hN 12 _ _ _ rfl (by decide);exact⟨j,f 12,g1,hj,g2⟩
    · obtain⟨j,hj⟩:=sm_at hI ⟨24,23,3,1003⟩ (by decide) (by decide) (by decide);obtain⟨g1,g2⟩:=hN 23 _ _ _ rfl (by decide);exact⟨j,f 23,g1,hj,g2⟩
    · obtain⟨j,hj⟩:=sm_at hI ⟨38,37,4,1004⟩ (by decide) (by decide) (by decide);obtain⟨g1,g2⟩:=hN 37 _ _ _ rfl (by decide);exact⟨j,f 37,g1,hj,g2⟩
    · obtain⟨j,hj⟩:=sm_at hI ⟨55,54,5,1005⟩ (by decide) (by decide) (by decide);obtain⟨g1,g2⟩:=hN 54 _ _ _ rfl (by decide);exact⟨j,f 54,g1,hj,g2⟩
    · obtain⟨j,hj⟩:=sm_at hI ⟨60,59,6,1001⟩ (by decide) (by decide) (by decide);obtain⟨g1,g2⟩:=hN 59 _ _ _ rfl (by decide);exact⟨j,f 59,g1,hj,g2⟩
    · obtain⟨j,hj⟩:=sm_at hI ⟨62,61,7,1000⟩ (by decide) (by decide) (by decide);obtain⟨g1,g2⟩:=hN 61 _ _ _ rfl (by decide);exact⟨j,f 61,g1,hj,g2⟩
    · obtain⟨j,hj⟩:=sm_at hI ⟨67,66,8,1001⟩ (by decide) (by decide) (by decide);obtain⟨g1,g2⟩:=hN 66 _ _ _ rfl (by decide);exact⟨j,f 66,g1,hj,g2⟩
  · rename_i hk
    refine find_no k _ 0 (fun e he=> ?_);obtain⟨q,g1,-,g3,-⟩:=hI.sound e he;refine⟨q.key,g3,fun e=>hk ?_⟩;have:=ent_key q g1;unfold kindB;rw [←e];exact decide_eq_true this
namespace L
section
variable {A:Act}{w:World}{dst:Option Tmp}{ty:TypeId}{ps:String}{af:Array Edge}{gd:Option (Nat×Bool)}{x y:Operand}{b i:Nat}
theorem move {u:Value}(hx:A.eval x=u):Does prog (Opr dst (.move x) ty ps af gd) A w fun v' w'=>v'=u∧Bl w w':=dv (by generalize A.eval=ev at*;simp [execOp,hx,go_sem])
theorem assign {u:Value}(hx:A.eval x=u):Does prog (Opr dst (.assign x) ty ps af gd) A w fun v' w'=>v'=u∧Bl w w':=dv (by generalize A.eval=ev at*;simp [execOp,hx,go_sem])
theorem nck (hx:A.eval x= .pointer (some ⟨b,i,none⟩)):Does prog (Opr dst (.nilCheck x) ty ps af gd) A w fun v' w'=>v'= .pointer (some ⟨b,i,none⟩)∧Bl w w':=dv (by generalize A.eval=ev at*;simp [execOp,hx,go_sem])
theorem ldS {v0:Value}(hx:A.eval x= .pointer (some ⟨b,i,none⟩))(h0:w.cell? ⟨b,i,none⟩=some v0):Does prog (Opr dst (.load 9 x) ty ps af gd) A w fun v' w'=>v'=v0∧Bl w w':=dv (by generalize A.eval=ev at*;simp [execOp,hx,h0,go_sem])
theorem ldI {v0:Value}(hx:A.eval x= .pointer (some ⟨b,i,none⟩))(h0:w.cell? ⟨b,i,none⟩=some v0):Does prog (Opr dst (.load 3 x) ty ps af gd) A w fun v' w'=>v'=v0∧Bl w w':=dv (by generalize A.eval=ev at*;simp [execOp,hx,h0,go_sem])
theorem ldP {v0 v1 v2:Value}(hx:A.eval x= .pointer (some ⟨b,i,none⟩))(h0:w.cell? ⟨b,i,none⟩=some v0)(h1:w.cell? ⟨b,i+1,none⟩=some v1)(h2:w.cell? ⟨b,i+2,none⟩=some v2):
    Does prog (Opr dst (.load 26 x) ty ps af gd) A w fun v' w'=>v'= .agg #[v0,v1,v2]∧Bl w w':=dv (by generalize A.eval=ev at*;simp [execOp,hx,h0,h1,h2,go_sem])
theorem cat {a c:ByteArray}(hx:A.eval x= .string a)(hy:A.eval y= .string c)(hz:a.size+c.size≤9223372036854775807):Does prog (Opr dst (.binOp .add 9 x y 9) ty ps af gd) A w fun v' w'=>v'= .string (a++c)∧Bl w w':=by
  have hn: ¬ (9223372036854775807<a.size+c.size):=by omega
  have h:(execOp A.eval (Opr dst (.binOp .add 9 x y 9) ty ps af gd)).run prog w= .ok (.value (.string (a++c))) w:=by generalize A.eval=ev at*;simp [execOp,hx,hy,hn,go_sem]
  exact does_value h ⟨rfl,Below.refl _ _⟩
theorem cvU {n m:Int}(hx:A.eval x= .int .i64 n)(hm:IntKind.u64.wrap n=m):Does prog (Opr dst (.convert 3 22 x) ty ps af gd) A w fun v' w'=>v'=int u64 m∧Bl w w':=dv (by generalize A.eval=ev at*;simp [execOp,hx,hm,go_sem])
theorem cl1 {F:FuncId}{at_:Array TypeId}{r:Value}{x0:Operand}{u0:Value}(hcf:∀(args:Array Value) (w:World),(callFunc F args).run prog w= .ok (.enter F args) w)(h0:A.eval x0=u0)
    (hc:Cr F #[u0] w r):
    Does prog (Opr dst (.call {callee:= .value (.func F),args:=#[x0],argTypes:=at_}) ty ps af gd) A w fun v' w'=>v'=r∧Bl w w':=by
  have hF:A.eval (.func F)= .func (.func F) #[] #[]:=rfl;have h:(execOp A.eval (Opr dst (.call {callee:= .value (.func F),args:=#[x0],argTypes:=at_}) ty ps af gd)).run prog w= .ok (.enter F #[u0]) w:=by generalize A.eval=ev at*;simp [execOp,hF,hcf,h0,go_sem]
  exact does_call h (hc.mono fun _ _ ⟨h,h'⟩=>⟨r,h,rfl,h'⟩)
theorem cl2 {F:FuncId}{at_:Array TypeId}{r:Value}{x0 x1:Operand}{u0 u1:Value}(hcf:∀(args:Array Value) (w:World),(callFunc F args).run prog w= .ok (.enter F args) w)(h0:A.eval x0=u0)(h1:A.eval x1=u1)
    (hc:Cr F #[u0,u1] w r):
    Does prog (Opr dst (.call {callee:= .value (.func F),args:=#[x0,x1],argTypes:=at_}) ty ps af gd) A w fun v' w'=>v'=r∧Bl w w':=by
  have hF:A.eval (.func F)= .func (.func F) #[] #[]:=rfl;have h:(execOp A.eval (Opr dst (.call {callee:= .value (.func F),args:=#[x0,x1],argTypes:=at_}) ty ps af gd)).run prog w= .ok (.enter F #[u0,u1]) w:=by generalize A.eval=ev at*;simp [execOp,hF,hcf,h0,h1,go_sem]
  exact does_call h (hc.mono fun _ _ ⟨h,h'⟩=>⟨r,h,rfl,h'⟩)
theorem puS {T':TypeId}{cs:Array Value}{u:ByteArray}(hx:A.eval x= .pointer (some ⟨b,i,none⟩))(hy:A.eval y= .string u)(hr:w.heap[b]? =some (.cells cs T'))(hl:i<cs.size):
    Does prog (Opr dst (.store 9 x y) ty ps af gd) A w fun _ w'=>Turned b (.cells (cs.setIfInBounds i (.string u)) T') w w':=by
  have hb:Bk w T' b cs:=hr;have hc:=hb.cell (v:=cs[i]) (Array.getElem?_eq_getElem hl);have hf:=hb.frz i
  have h:(execOp A.eval (Opr dst (.store 9 x y) ty ps af gd)).run prog w= .ok .skip (w.setCell ⟨b,i,none⟩ (.string u)):=by
    generalize A.eval=ev at*;simp [execOp,hx,hy,hc,hf,go_sem]
  exact does_skip h ⟨rfl,rfl,rfl,by simp,hb.set i _,fun k hk=>heap_setCell_other w ⟨b,i,none⟩ k _ (fun e=>hk e)⟩
end
theorem fa_w0 {A:Act}{w:World}{dst:Option Tmp}{ty:TypeId}{ps:String}{af:Array Edge}{gd:Option (Nat×Bool)}{x:Operand}{b i:Nat}(hx:A.eval x= .pointer (some ⟨b,i,none⟩)):Does prog (Opr dst (.fieldAddr 66 x 0) ty ps af gd) A w fun v' w'=>v'= .pointer (some ⟨b,i,none⟩)∧Bl w w':=dv (by generalize A.eval=ev at*;simp [execOp,hx,go_sem])
theorem fa_w1 {A:Act}{w:World}{dst:Option Tmp}{ty:TypeId}{ps:String}{af:Array Edge}{gd:Option (Nat×Bool)}{x:Operand}{b i:Nat}(hx:A.eval x= .pointer (some ⟨b,i,none⟩)):Does prog (Opr dst (.fieldAddr 66 x 1) ty ps af gd) A w fun v' w'=>v'= .pointer (some ⟨b,i+12,none⟩)∧Bl w w':=dv (by generalize A.eval=ev at*;simp [execOp,hx,go_sem])
theorem fa_m1 {A:Act}{w:World}{dst:Option Tmp}{ty:TypeId}{ps:String}{af:Array Edge}{gd:Option (Nat×Bool)}{x:Operand}{b i:Nat}(hx:A.eval x= .pointer (some ⟨b,i,none⟩)):Does prog (Opr dst (.fieldAddr 40 x 1) ty ps af gd) A w fun v' w'=>v'= .pointer (some ⟨b,i+1,none⟩)∧Bl w w':=dv (by generalize A.eval=ev at*;simp [execOp,hx,go_sem])
theorem fa_m2 {A:Act}{w:World}{dst:Option Tmp}{ty:TypeId}{ps:String}{af:Array Edge}{gd:Option (Nat×Bool)}{x:Operand}{b i:Nat}(hx:A.eval x= .pointer (some ⟨b,i,none⟩)):Does prog (Opr dst (.fieldAddr 40 x 2) ty ps af gd) A w fun v' w'=>v'= .pointer (some ⟨b,i+2,none⟩)∧Bl w w':=dv (by generalize A.eval=ev at*;simp [execOp,hx,go_sem])
theorem fa_m3 {A:Act}{w:World}{dst:Option Tmp}{ty:TypeId}{ps:String}{af:Array Edge}{gd:Option (Nat×Bool)}{x:Operand}{b i:Nat}(hx:A.eval x= .pointer (some ⟨b,i,none⟩)):Does prog (Opr dst (.fieldAddr 40 x 3) ty ps af gd) A w fun v' w'=>v'= .pointer (some ⟨b,i+5,none⟩)∧Bl w w':=dv (by generalize A.eval=ev at*;simp [execOp,hx,go_sem])
theorem fa_m4 {A:Act}{w:World}{dst:Option Tmp}{ty:TypeId}{ps:String}{af:Array Edge}{gd:Option (Nat×Bool)}{x:Operand}{b i:Nat}(hx:A.eval x= .pointer (some ⟨b,i,none⟩)):Does prog (Opr dst (.fieldAddr 40 x 4) ty ps af gd) A w fun v' w'=>v'= .pointer (some ⟨b,i+8,none⟩)∧Bl w w':=dv (by generalize A.eval=ev at*;simp [execOp,hx,go_sem])
theorem fa_m5 {A:Act}{w:World}{dst:Option Tmp}{ty:TypeId}{ps:String}{af:Array Edge}{gd:Option (Nat×Bool)}{x:Operand}{b i:Nat}(hx:A.eval x= .pointer (some ⟨b,i,none⟩)):Does prog (Opr dst (.fieldAddr 40 x 5) ty ps af gd) A w fun v' w'=>v'= .pointer (some ⟨b,i+9,none⟩)∧Bl w w':=dv (by generalize A.eval=ev at*;simp [execOp,hx,go_sem])
theorem fa_m6 {A:Act}{w:World}{dst:Option Tmp}{ty:TypeId}{ps:String}{af:Array Edge}{gd:Option (Nat×Bool)}{x:Operand}{b i:Nat}(hx:A.eval x= .pointer (some ⟨b,i,none⟩)):Does prog (Opr dst (.fieldAddr 40 x 6) ty ps af gd) A w fun v' w'=>v'= .pointer (some ⟨b,i+10,none⟩)∧Bl w w':=dv (by generalize A.eval=ev at*;simp [execOp,hx,go_sem])
theorem fa_m7 {A:Act}{w:World}{dst:Option Tmp}{ty:TypeId}{ps:String}{af:Array Edge}{gd:Option (Nat×Bool)}{x:Operand}{b i:Nat}(hx:A.eval x= .pointer (some ⟨b,i,none⟩)):Does prog (Opr dst (.fieldAddr 40 x 7) ty ps af gd) A w fun v' w'=>v'= .pointer (some ⟨b,i+11,none⟩)∧Bl w w':=dv (by generalize A.eval=ev at*;simp [execOp,hx,go_sem])
end L
def RS (v:Value)(base:Nat)(g:Nat)(w:World):Prop:=SM v base w g
def RB (cs:Array Value)(x:Nat)(w:World):Prop:=w.heap[x]? =some (.cells cs 1)
theorem RB_below {cs:Array Value}{x:Nat}{w w':World}(h:RB cs x w)(hb:Bl w w'):RB cs x w':=(hb.block x (Array.getElem?_eq_some_iff.1 h).1).trans h
theorem RS_lasts {v:Value}{base:Nat}:G.Lasts (RS v base) []:=⟨fun x w w' h hb=>SM.keep h hb,fun x w w' b ob ob' _ hm=>by cases hm⟩
theorem RB_lasts {cs:Array Value}:G.Lasts (RB cs) []:=⟨fun x w w' h hb=>RB_below h hb,fun x w w' b ob ob' _ hm=>by cases hm⟩
namespace L
section
variable {A:Act}{w:World}{dst:Option Tmp}{ty:TypeId}{ps:String}{af:Array Edge}{gd:Option (Nat×Bool)}{x y:Operand}{b i:Nat}
theorem miR {u:Value}(hx:A.eval x=u):Does prog (Opr dst (.makeInterface 72 x) ty ps af gd) A w fun v' w'=>v'= .iface 72 u∧Bl w w':=dv (by generalize A.eval=ev at*;simp [execOp,hx,go_sem])
theorem miW {u:Value}(hx:A.eval x=u):Does prog (Opr dst (.makeInterface 63 x) ty ps af gd) A w fun v' w'=>v'= .iface 63 u∧Bl w w':=dv (by generalize A.eval=ev at*;simp [execOp,hx,go_sem])
theorem fa_r0 (hx:A.eval x= .pointer (some ⟨b,i,none⟩)):Does prog (Opr dst (.fieldAddr 74 x 0) ty ps af gd) A w fun v' w'=>v'= .pointer (some ⟨b,i,none⟩)∧Bl w w':=dv (by generalize A.eval=ev at*;simp [execOp,hx,go_sem])
theorem fa_m0 (hx:A.eval x= .pointer (some ⟨b,i,none⟩)):Does prog (Opr dst (.fieldAddr 40 x 0) ty ps af gd) A w fun v' w'=>v'= .pointer (some ⟨b,i,none⟩)∧Bl w w':=dv (by generalize A.eval=ev at*;simp [execOp,hx,go_sem])
theorem xt0 {u v:Value}(hx:A.eval x= .tuple #[u,v]):Does prog (Opr dst (.extract x 0) ty ps af gd) A w fun v' w'=>v'=u∧Bl w w':=dv (by generalize A.eval=ev at*;simp [execOp,hx,go_sem])
theorem xt1 {u v:Value}(hx:A.eval x= .tuple #[u,v]):Does prog (Opr dst (.extract x 1) ty ps af gd) A w fun v' w'=>v'=v∧Bl w w':=dv (by generalize A.eval=ev at*;simp [execOp,hx,go_sem])
theorem cg1 {F:FuncId}{at_:Array TypeId}{Fv:Nat→Value}{R:Nat→World→Prop}{x0:Operand}{u0:Value}(hcf:∀(args:Array Value) (w:World),(callFunc F args).run prog w= .ok (.enter F args) w)(h0:A.eval x0=u0)
    (hc:Calls prog F #[u0] w fun e w'=>∃x,e= .returned (Fv x)∧R x w'∧Bl w w'):
    Does prog (Opr dst (.call {callee:= .value (.func F),args:=#[x0],argTypes:=at_}) ty ps af gd) A w fun v' w'=>∃x,v'=Fv x∧R x w'∧Bl w w':=by
  have hF:A.eval (.func F)= .func (.func F) #[] #[]:=rfl;have h:(execOp A.eval (Opr dst (.call {callee:= .value (.func F),args:=#[x0],argTypes:=at_}) ty ps af gd)).run prog w= .ok (.enter F #[u0]) w:=by generalize A.eval=ev at*;simp [execOp,hF,hcf,h0,go_sem]
  exact does_call h (hc.mono fun _ _ ⟨x,h,h'⟩=>⟨Fv x,h,x,rfl,h'⟩)
theorem gmv {F:Nat→Value}{R:Nat→World→Prop}{z:Nat}(hx:A.eval x=F z)(hR:R z w):Does prog (Opr dst (.move x) ty ps af gd) A w fun v' w'=>∃q,v'=F q∧R q w'∧Bl w w':=by
  have h:(execOp A.eval (Opr dst (.move x) ty ps af gd)).run prog w= .ok (.value (F z)) w:=by generalize A.eval=ev at*;simp [execOp,hx,go_sem]
  exact does_value h ⟨z,rfl,hR,Below.refl _ _⟩
theorem gas {F:Nat→Value}{R:Nat→World→Prop}{z:Nat}(hx:A.eval x=F z)(hR:R z w):Does prog (Opr dst (.assign x) ty ps af gd) A w fun v' w'=>∃q,v'=F q∧R q w'∧Bl w w':=by
  have h:(execOp A.eval (Opr dst (.assign x) ty ps af gd)).run prog w= .ok (.value (F z)) w:=by generalize A.eval=ev at*;simp [execOp,hx,go_sem]
  exact does_value h ⟨z,rfl,hR,Below.refl _ _⟩
theorem gx0 {F:Nat→Value}{R:Nat→World→Prop}{z:Nat}{u:Value}(hx:A.eval x= .tuple #[F z,u])(hR:R z w):Does prog (Opr dst (.extract x 0) ty ps af gd) A w fun v' w'=>∃q,v'=F q∧R q w'∧Bl w w':=by
  have h:(execOp A.eval (Opr dst (.extract x 0) ty ps af gd)).run prog w= .ok (.value (F z)) w:=by generalize A.eval=ev at*;simp [execOp,hx,go_sem]
  exact does_value h ⟨z,rfl,hR,Below.refl _ _⟩
theorem lk_run {v:Value}{base g:Nat}{k:Int}(h:SM v base w g)(co:Bool):∃r ok,(Instr.lookup 68 (.map (some g)) (.int .i64 k) co).run prog w= .ok (if co then .tuple #[r,.bool ok] else r) w∧
    (kindB k=true→ok=true∧∃bb,r= .slice (some ⟨bb,0,none⟩) (flds k).length (flds k).length∧RB ((flds k).map (fnV v)).toArray bb w)∧(kindB k=false→ok=false∧r= .slice none 0 0):=by
  obtain⟨-,es,clk,hg,hk⟩:=h;have hk:=hk k;by_cases hkn:kindB k=true
  · rw [if_pos hkn] at hk;obtain⟨j,bb,-,h1,h2⟩:=hk;refine⟨_,true,?_,fun _=>⟨rfl,bb,rfl,h2⟩,fun h=>absurd hkn (by rw [h];decide)⟩;simp [Instr.lookup,run_underlying underlying68,MapKept.run_getObj_map hg,MapKept.run_checkKey underlying3 (k:= .int .i64 k) rfl,MapKept.run_findKey underlying3 h1,Result.andThen]
  · rw [if_neg hkn] at hk;have hz:(zeroValue 67).run prog w= .ok (.slice none 0 0) w:=by kernel_rfl
    refine⟨_,false,?_,fun h=>absurd h hkn,fun _=>⟨rfl,rfl⟩⟩;simp [Instr.lookup,run_underlying underlying68,MapKept.run_getObj_map hg,MapKept.run_checkKey underlying3 (k:= .int .i64 k) rfl,MapKept.run_findKey underlying3 hk,hz,Result.andThen]
theorem lkT {v:Value}{base g n:Nat}{k:Int}{cs:Array Value}(hkn:kindB k=true)(hn:(flds k).length=n)(hcs:((flds k).map (fnV v)).toArray=cs)(h0:A.eval x= .map (some g))(h1:A.eval y= .int .i64 k)(h:RS v base g w):
    Does prog (Opr dst (.lookup 68 x y true) ty ps af gd) A w fun v' w'=>∃q,v'= .tuple #[.slice (some ⟨q,0,none⟩) n n,.bool true]∧RB cs q w'∧Bl w w':=by
  obtain⟨r,ok,h2,h3,-⟩:=lk_run (k:=k) h true;obtain⟨rfl,bb,rfl,h4⟩:=h3 hkn;rw [hn] at h2;rw [hcs] at h4;have he:(execOp A.eval (Opr dst (.lookup 68 x y true) ty ps af gd)).run prog w= .ok (.value (.tuple #[.slice (some ⟨bb,0,none⟩) n n,.bool true])) w:=by generalize A.eval=ev at*;simp [execOp,h0,h1,h2,Result.andThen]
  exact does_value he ⟨bb,rfl,h4,Below.refl _ _⟩
theorem lkF {v:Value}{base g:Nat}{k:Int}(hkn:kindB k=false)(h0:A.eval x= .map (some g))(h1:A.eval y= .int .i64 k)(h:RS v base g w):
    Does prog (Opr dst (.lookup 68 x y true) ty ps af gd) A w fun v' w'=>v'= .tuple #[.slice none 0 0,.bool false]∧Bl w w':=by
  obtain⟨r,ok,h2,-,h3⟩:=lk_run (k:=k) h true;obtain⟨rfl,rfl⟩:=h3 hkn;have he:(execOp A.eval (Opr dst (.lookup 68 x y true) ty ps af gd)).run prog w= .ok (.value (.tuple #[.slice none 0 0,.bool false])) w:=by generalize A.eval=ev at*;simp [execOp,h0,h1,h2,Result.andThen]
  exact does_value he ⟨rfl,Below.refl _ _⟩
theorem lk1 {v:Value}{base g n:Nat}{k:Int}{cs:Array Value}(hkn:kindB k=true)(hn:(flds k).length=n)(hcs:((flds k).map (fnV v)).toArray=cs)(h0:A.eval x= .map (some g))(h1:A.eval y= .int .i64 k)(h:RS v base g w):
    Does prog (Opr dst (.lookup 68 x y false) ty ps af gd) A w fun v' w'=>∃q,v'= .slice (some ⟨q,0,none⟩) n n∧RB cs q w'∧Bl w w':=by
  obtain⟨r,ok,h2,h3,-⟩:=lk_run (k:=k) h false;obtain⟨rfl,bb,rfl,h4⟩:=h3 hkn;rw [hn] at h2;rw [hcs] at h4;have he:(execOp A.eval (Opr dst (.lookup 68 x y false) ty ps af gd)).run prog w= .ok (.value (.slice (some ⟨bb,0,none⟩) n n)) w:=by generalize A.eval=ev at*;simp [execOp,h0,h1,h2,Result.andThen]
  exact does_value he ⟨bb,rfl,h4,Below.refl _ _⟩
theorem lk0 {v:Value}{base g:Nat}{k:Int}(hkn:kindB k=false)(h0:A.eval x= .map (some g))(h1:A.eval y= .int .i64 k)(h:RS v base g w):
    Does prog (Opr dst (.lookup 68 x y false) ty ps af gd) A w fun v' w'=>v'= .slice none 0 0∧Bl w w':=by
  obtain⟨r,ok,h2,-,h3⟩:=lk_run (k:=k) h false;obtain⟨rfl,rfl⟩:=h3 hkn;have he:(execOp A.eval (Opr dst (.lookup 68 x y false) ty ps af gd)).run prog w= .ok (.value (.slice none 0 0)) w:=by generalize A.eval=ev at*;simp [execOp,h0,h1,h2,Result.andThen]
  exact does_value he ⟨rfl,Below.refl _ _⟩
theorem ldM {cs:Array Value}(hx:A.eval x= .pointer (some ⟨b,0,none⟩))(hr:Bk w 40 b cs)(hs:cs.size=12):Does prog (Opr dst (.load 40 x) ty ps af gd) A w fun v' w'=>v'= .agg cs∧Bl w w':=by
  have hl:=run_loadVar_mid (P:=prog) w b 0 40 cs.toList _ hr.range underlying40 rfl (by rw [Array.length_toList,hs];kernel_rfl)
  have h:(execOp A.eval (Opr dst (.load 40 x) ty ps af gd)).run prog w= .ok (.value (.agg cs)) w:=by
    generalize A.eval=ev at*;simp [execOp,hx,Instr.loadAt,Instr.sureAddr,hl,Result.andThen]
  exact does_value h ⟨rfl,Below.refl _ _⟩
theorem lenS {a:Option Addr}{n c:Nat}(hx:A.eval x= .slice a n c):Does prog (Opr dst (.call {callee:= .builtin .len,args:=#[x],argTypes:=#[67]}) ty ps af gd) A w fun v' w'=>v'= .int .i64 (n:Int)∧Bl w w':=dv (by generalize A.eval=ev at*;simp [hx,go_sem])
theorem bxW {cs:Array Value}(hx:A.eval x= .agg cs):Does prog (Opr dst (.box 66 x) ty ps af gd) A w fun v w'=>v= .pointer (some ⟨w.heap.size,0,none⟩)∧w'=w.alloc (.cells cs 66):=by
  have h:(execOp A.eval (Opr dst (.box 66 x) ty ps af gd)).run prog w= .ok (.value (.pointer (some ⟨w.heap.size,0,none⟩))) (w.alloc (.cells cs 66)):=by
    generalize A.eval=ev at*;simp [execOp,hx,go_sem]
  exact does_value h ⟨rfl,rfl⟩
theorem buW {m0 m1 m2 m3 m4 m5 m6 m7 m8 m9 m10 m11:Value}{u:ByteArray}(hx:A.eval x= .agg #[m0,m1,m2,m3,m4,m5,m6,m7,m8,m9,m10,m11])(hy:A.eval y= .string u):
    Does prog (Opr dst (.build 66 #[(0,x),(1,y)]) ty ps af gd) A w fun v' w'=>v'= .agg #[m0,m1,m2,m3,m4,m5,m6,m7,m8,m9,m10,m11,.string u]∧Bl w w':=by
  have h:(execOp A.eval (Opr dst (.build 66 #[(0,x),(1,y)]) ty ps af gd)).run prog w= .ok (.value (.agg #[m0,m1,m2,m3,m4,m5,m6,m7,m8,m9,m10,m11,.string u])) w:=by
    generalize A.eval=ev at*;simp [execOp,hx,hy,go_sem]
  exact does_value h ⟨rfl,Below.refl _ _⟩
end
end L
theorem sideBk {W W':World}(h:G.Sides [] W W'){t:TypeId}{b:Nat}{cs:Array Value}(hb:Bk W t b cs):Bk W' t b cs:=(h.block b hb.lt (by simp)).trans hb
theorem ob_newi {P:Program}{ops:Array Oper}{kind:Nat→G.Knd}{a0:Act}{uses:Nat→List Nat}{S:List Nat}{W0:World}{i:Nat}{o:Oper}{ob ob':Obj}{k:Nat}(ins:List (Nat×Value))(ho:ops[i]? =some o)(hk:kind i= .new ob ob' k)
    (hi:∀f,(uses i).map (fun t=>(t,G.look ops kind a0 f i t))=ins)(h:∀(A:Act) (w:World),Evs A ins→Does P o A w fun v w'=>v= .pointer (some ⟨w.heap.size,0,none⟩)∧w'=w.alloc ob)(hk1:decide (k<1000)=true:=by decide):G.Ob S P ops kind uses a0 W0 i:=by
  intro o' ho';rw [ho] at ho';cases ho';rw [hk];intro f A w hA;have e:nv k w.heap.size= .pointer (some ⟨w.heap.size,0,none⟩):=by unfold nv;rw [if_neg (by have:=of_decide_eq_true hk1;omega)]
  rw [e];exact h A w (hi f▸evs_of _ hA)
namespace G
def okU (ops:Array Oper)(kind:Nat→Knd)(md:Region.Mode):Bool:=(List.range ops.size).all fun i=>match ops[i]? with
  |none=>true
  | some o=>match o.guard with
    |none=>true
    |some (g,_)=>(match kind g with
        | .val (.bool _)=>true
        |_=>false)&&((ops[g]?).bind (·.dst)).isSome&&o.after.toList.any (fun e=>e.on==g&&Region.binds md e)
def unw (ops:Array Oper)(kind:Nat→Knd)(i:Nat):Bool:=match ops[i]? with
  |none=>false
  | some o=>match o.guard with
    |none=>false
    | some (g,want)=>match kind g with
      | .val (.bool b)=>b !=want
      |_=>false
section
variable {P:Program}{ops:Array Oper}{Q:Exit→Act→World→Prop}{md:Region.Mode}{kind:Nat→Knd}{a0:Act}{uses:Nat→List Nat}
theorem wants_of (hok:okOps ops a0 md uses=true)(hG:okU ops kind md=true){i:Nat}{o:Oper}(ho:ops[i]? =some o)(l:Array Bool)(f:Nat→Nat)
    (hedge:∀e∈o.after.toList,Region.binds md e=true→l.getD e.on false=true):Region.wanted o (yielded ops (canon ops kind a0 l f).tmps)= !unw ops kind i:=by
  have hl:i<ops.size:=(Array.getElem?_eq_some_iff.1 ho).1;unfold okU at hG;rw [List.all_eq_true] at hG;have h1:=hG i (List.mem_range.2 hl);rw [ho] at h1;unfold Region.wanted unw;rw [ho]
  cases hg:o.guard with
  |none=>simp only [hg];rfl
  | some gw =>
    obtain⟨g,want⟩:=gw;simp only [hg,Bool.and_eq_true] at h1;obtain⟨⟨h1,h2⟩,h3⟩:=h1;rw [List.any_eq_true] at h3;obtain⟨e,he,h4⟩:=h3;rw [Bool.and_eq_true] at h4
    have hlg:l.getD g false=true:=by
      have h5:e.on=g:=by simpa using h4.1
      exact h5▸hedge e he h4.2
    cases hog:ops[g]? with
    |none=>rw [hog] at h2;cases h2
    | some o2=>
      rw [hog] at h2
      cases hd:o2.dst with
      |none=>simp [hd] at h2
      | some d=>
        obtain⟨hown,hlt⟩:=(okOps_at hok hog).1 d hd
        have hv:(canon ops kind a0 l f).tmps[d]? =some (vl kind f g):=by
          unfold canon;rw [Array.getElem?_mapIdx,Array.getElem?_eq_getElem hlt];simp only [Option.map_some,hown,hlg,if_true]
        cases hk:kind g with
        |new _ _ _=>rw [hk] at h1;cases h1
        |put _=>rw [hk] at h1;cases h1
        |got _ _=>rw [hk] at h1;cases h1
        |set _ _ _=>rw [hk] at h1;cases h1
        | val v=>
          rw [hk] at h1
          cases v with
          | bool b=>
            have hvl:vl kind f g= .bool b:=by unfold vl;rw [hk]
            unfold yielded;simp only [hg,hk,hog,Option.bind_some,hd,hv,hvl];cases b<;>cases want<;>rfl
          |_=>cases h1
theorem pinv_skip (hok:okOps ops a0 md uses=true)(hG:okU ops kind md=true){W0:World}
    (hkk:∀j ob ob' k,kind j= .new ob ob' k→k<ops.size→kind k= .put j)(hlast:Last kind){l:Array Bool}{a:Act}{w:World}{i:Nat}{S:List Nat}(hsb:∀i b ob ob',kind i= .set b ob ob'→b<W0.heap.size)(hu:unw ops kind i=true)(hk:kind i= .val undef)
    (hI:PInv S md ops kind a0 W0 l a w)(hi:i∈Region.ready md ops l):wpOp P ops Q i (PInv S md ops kind a0 W0 (l.setIfInBounds i true)) a w:=by
  obtain⟨hs,f,rfl,hB,hN,hJ,hL,hC,hR,hZ⟩:=hI;obtain⟨hil,hif,-,o,ho,hedge⟩:=ready_get hi
  have hC':∀j oj,ops[j]? =some oj→(l.setIfInBounds i true).getD j false=true→∀e∈oj.after.toList,Region.binds md e=true→(l.setIfInBounds i true).getD e.on false=true:=fun j oj hoj hlj e he hb=>by
    rw [getD_set l i j hil] at hlj;rw [getD_set l i e.on hil];by_cases hji:j=i
    · subst hji;rw [ho] at hoj;cases hoj;split
      · rfl
      · exact hedge e he hb
    · rw [if_neg hji] at hlj;split
      · rfl
      · exact hC j oj hoj hlj e he hb
  have hw:=wants_of (kind:=kind) hok hG ho l f hedge;rw [hu] at hw;unfold wpOp;simp only [ho,hw,Bool.not_true,Bool.false_eq_true,if_false];have hb:=Below.refl w.heap.size w;refine⟨by simpa using hs,f,?_,hB.step hb,?_,?_,?_,hC',fun j F R hj hlj=> ?_,?_⟩
  · have:=canon_put hok ho l hil f f (fun _ _=>rfl) (kind:=kind) (.inr hif);rw [←this];unfold vl;rw [hk]
  · intro j ob ob' k hj hlj;have hji:j≠i:=by rintro rfl;rw [hk] at hj;cases hj
    rw [getD_set l i j hil,if_neg hji] at hlj;obtain⟨h1,h2,h3⟩:=hN j ob ob' k hj hlj;refine⟨h1,Nat.lt_of_lt_of_le h2 hb.size,(hb.block _ h2).trans (h3.trans ?_)⟩;rw [getD_set l i k hil];by_cases hki:k=i
    · have:=hkk j ob ob' k hj (by omega);rw [hki,hk] at this;cases this
    · rw [if_neg hki]
  · intro j1 j2 h1 h2 hne k1 k2;have e1:j1≠i:=by rintro rfl;obtain⟨_,_,_,h⟩:=k1;rw [hk] at h;cases h
    have e2:j2≠i:=by rintro rfl;obtain⟨_,_,_,h⟩:=k2;rw [hk] at h;cases h
    rw [getD_set l i j1 hil,if_neg e1] at h1;rw [getD_set l i j2 hil,if_neg e2] at h2;exact hJ j1 j2 h1 h2 hne k1 k2
  · intro k j hkj h1;have e1:k≠i:=by rintro rfl;rw [hk] at hkj;cases hkj
    rw [getD_set l i k hil,if_neg e1] at h1;have:=hL k j hkj h1;rw [getD_set l i j hil,this];split<;>rfl
  · have hji:j≠i:=by rintro rfl;rw [hk] at hj;cases hj
    rw [getD_set l i j hil,if_neg hji] at hlj;exact(hlast j F R hj).1 _ _ _ (hR j F R hj hlj) hb
  · intro j b ob ob' hj;have hji:j≠i:=by rintro rfl;rw [hk] at hj;cases hj
    rw [getD_set l i j hil,if_neg hji,hb.block b (Nat.lt_of_lt_of_le (hsb j b ob ob' hj) hB.size)];exact hZ j b ob ob' hj
theorem pool_anyU {S:List Nat}(hok:okOps ops a0 md uses=true)(hG:okU ops kind md=true)(hdag:dagB md ops=true)(W0:World)
    (hkk:∀j ob ob' k,kind j= .new ob ob' k→k<ops.size→kind k= .put j)(hlast:Last kind)
    (hset:∀i b ob ob',kind i= .set b ob ob'→W0.heap[b]? =some ob)
    (hob:∀i,i<ops.size→(unw ops kind i=true∧kind i= .val undef)∨(unw ops kind i=false∧Ob S P ops kind uses a0 W0 i))
    (fin:∀(f:Nat→Nat) (w:World),Sides S W0 w→
      (∀i ob ob' k,kind i= .new ob ob' k→i<ops.size→W0.heap.size≤f i∧w.heap[f i]? =some (if k<ops.size then ob' else ob))→
      (∀i j,i<ops.size→j<ops.size→i≠j→(∃ob ob' k,kind i= .new ob ob' k)→(∃ob ob' k,kind j= .new ob ob' k)→f i≠f j)→
      (∀i F R,kind i= .got F R→i<ops.size→R (f i) w)→
      (∀i b ob ob',kind i= .set b ob ob'→i<ops.size→w.heap[b]? =some ob')→
      Q .normal (canonAll ops kind a0 f) w):
    wpAny P md ops Q ops.size (Array.replicate ops.size false) a0 W0:=by
  refine any_inv (PInv S md ops kind a0 W0) ?fin (fun l a w i hI hi=> ?stp) _ _ _ _ ?cnt (pinv_start W0 hset)
  case stp=>
    obtain⟨-,-,-,o,ho,-⟩:=ready_get hi;rcases hob i (Array.getElem?_eq_some_iff.1 ho).1 with ⟨h1,h2⟩|⟨h1,h2⟩
    · exact pinv_skip hok hG hkk hlast (fun i b ob ob' h=>(Array.getElem?_eq_some_iff.1 (hset i b ob ob' h)).1) h1 h2 hI hi
    · exact pinv_stepW hok hkk hlast (fun i b ob ob' h=>(Array.getElem?_eq_some_iff.1 (hset i b ob ob' h)).1) h2 (fun o f ho hedge=>by rw [wants_of hok hG ho l f hedge,h1];rfl) hI hi
  case cnt=>simp
  case fin=>
    rintro l a w ⟨hs,f,rfl,hB,hN,hJ,-,-,hR,hZ⟩ hr;have hall:∀i,i<ops.size→l.getD i false=true:=fun i hi=>all_listedB hdag l hs hr (i+1) i (by omega) hi
    have hc:canon ops kind a0 l f=canonAll ops kind a0 f:=by
      unfold canon canonAll;simp only [Act.mk.injEq,and_true];apply Array.ext_getElem?;intro t;rw [Array.getElem?_mapIdx,Array.getElem?_mapIdx]
      cases a0.tmps[t]? with
      |none=>rfl
      | some v=>
        simp only [Option.map_some]
        cases ht:ownOf ops t with
        |none=>rfl
        |some j=>simp only [hall j (own_lt ht),if_true]
    rw [hc]
    refine fin f w hB (fun i ob ob' k hk hi=> ?_) (fun i j hi hj=>hJ i j (hall i hi) (hall j hj)) (fun i F R hk hi=>hR i F R hk (hall i hi)) (fun i b ob ob' hk hi=>by
      have:=hZ i b ob ob' hk
      rwa [if_pos (hall i hi)] at this)
    obtain⟨h1,-,h3⟩:=hN i ob ob' k hk (hall i hi);refine⟨h1,h3.trans ?_⟩;by_cases hkl:k<ops.size
    · rw [if_pos (hall k hkl),if_pos hkl]
    · have:l.getD k false=false:=by rw [Array.getD_eq_getD_getElem?,Array.getElem?_eq_none (by omega)];rfl
      rw [this,if_neg hkl];rfl
theorem pool_listU (S:List Nat){id:Nat}{W:World}(kinds:List Knd)(us:List (List Nat))(dl:(Nat→Nat)→List (Option Tmp×Value))(hm:P.follows .mixedOrders=true)(hok:(okOps ops a0 .any (usesOf us)&&okU ops (kindOf kinds) .any)=true)(hdag:dagB .any ops=true)(hkk:okK kinds ops.size=true)
    (hdl:∀f,((List.range ops.size).map fun i=>((ops[i]?).bind (·.dst),vl (kindOf kinds) f i))=dl f)(hlast:Last (kindOf kinds))(hset:∀b ob ob',Knd.set b ob ob'∈kinds→W.drew.heap[b]? =some ob)
    (hob:∀i,i<ops.size→(unw ops (kindOf kinds) i=true∧kindOf kinds i= .val undef)∨(unw ops (kindOf kinds) i=false∧Ob S P ops (kindOf kinds) (usesOf us) a0 W.drew i))
    (fin:∀(f:Nat→Nat) (w:World),Sides S W.drew w→
      (∀i ob ob' k,kindOf kinds i= .new ob ob' k→i<ops.size→W.drew.heap.size≤f i∧w.heap[f i]? =some (if k<ops.size then ob' else ob))→
      (∀i j,i<ops.size→j<ops.size→i≠j→(∃ob ob' k,kindOf kinds i= .new ob ob' k)→(∃ob ob' k,kindOf kinds j= .new ob ob' k)→f i≠f j)→
      (∀i F R,kindOf kinds i= .got F R→i<ops.size→R (f i) w)→
      (∀i b ob ob',kindOf kinds i= .set b ob ob'→i<ops.size→w.heap[b]? =some ob')→
      Q .normal (puts (dl f) a0) w):
    (Code.region id ops true).wp P Q a0 W:=
  wp_region_any hm (pool_anyU (and_l hok) (and_r hok) hdag W.drew (okK_is hkk) hlast (set_of hset) hob fun f w h1 h2 h3 h4 h5=>by
    rw [canonAll_puts (and_l hok) f,hdl f]
    exact fin f w h1 h2 h3 h4 h5)
end
end G
end Go.Proofs.Ytnfbfpegagcanaa
