import Derived.Test.YtnfbfpegagcanaaMrg22
set_option linter.unusedVariables false
set_option maxRecDepth 100000
set_option maxHeartbeats 16000000
namespace Go.Proofs.Ytnfbfpegagcanaa
open Go.Proofs.Try Go.RowKit
open Go.Value (int)
open Go.IntKind (u64)
theorem cat_snoc (m:Msg)(q:Lt):∀l:List Lt,cat m (l++ [q])=cat m l++fld m q
  | []=>by
    show fld m q++(⟨#[]⟩:ByteArray)=⟨#[]⟩++fld m q;rw [app0,app0l]
  |a::l=>by rw [List.cons_append,cat,cat,cat_snoc m q l,ByteArray.append_assoc]
theorem cat_take (m:Msg):∀(l:List Lt) (j:Nat),(cat m (l.take j)).size≤(cat m l).size
  | [],j=>by rw [List.take_nil];exact Nat.le_refl _
  |a::l,0=>Nat.zero_le _
  | a::l,j+1=>by
    rw [List.take_succ_cons,cat,cat,ByteArray.size_append,ByteArray.size_append];have:=cat_take m l j;omega
structure Fits (m:Msg):Prop where
  k0: -9223372036854775808≤m.kind
  k1:m.kind<9223372036854775808
  c0: -9223372036854775808≤m.code
  c1:m.code<9223372036854775808
  us:m.user.size≤2097152
  all:(cat m (flds m.kind)).size≤4611686018427387904
end Go.Proofs.Ytnfbfpegagcanaa
namespace Go.Proofs.Ytnfbfpegagcanaa
open Go.Proofs.Try Go.RowKit
open Go.Value (int)
open Go.IntKind (u64)
open Go.RowKit
namespace L
theorem setCells_all (b:Nat)(T:TypeId):∀(vs:List Value) (o:Nat) (w:World) (cs:List Value),w.heap[b]? =some (.cells cs.toArray T)→o+vs.length≤cs.length→(w.setCells b o vs).heap[b]? =some (.cells (cs.take o++vs++cs.drop (o+vs.length)).toArray T)
  | [],o,w,cs,h,hl=>by simpa [World.setCells] using h
  | v::r,o,w,cs,h,hl=>by
    rw [World.setCells];have h1:(w.setCell ⟨b,o,none⟩ v).heap[b]? =some (.cells (cs.set o v).toArray T):=by simp [World.setCell,Array.getElem?_modify,h]
    simp only [List.length_cons] at hl;rw [setCells_all b T r (o+1) _ _ h1 (by simp;omega)];congr 3;rw [List.take_set,List.drop_set_of_lt (by omega),List.take_add_one,List.getElem?_eq_getElem (by omega)];simp only [Option.toList_some,List.length_cons];rw [List.set_append_right _ _ (by simp;omega)];simp [show min o cs.length=o by omega,show o+1+r.length=o+(r.length+1) by omega]
section
variable {A:Act}{w:World}{dst:Option Tmp}{ty:TypeId}{ps:String}{af:Array Edge}{gd:Option (Nat×Bool)}{x y z:Operand}{b i:Nat}
theorem puA {T T':TypeId}{cs0 cs:Array Value}(hx:A.eval x= .pointer (some ⟨b,0,none⟩))(hy:A.eval y= .agg cs)(hr:w.heap[b]? =some (.cells cs0 T'))(hl:cs.size=cs0.size)(hi:(prog.info? T).map (·.size)=some cs.size)(h1:cs.all (·.oneCell')=true):
    Does prog (Opr dst (.store T x y) ty ps af gd) A w fun _ w'=>Turned b (.cells cs T') w w':=by
  have ht:w.there b 0 cs.size:=fun j hj=>by
    rw [Nat.zero_add];exact⟨by rw [cell_of_row _ _ _ _ _ _ hr,Array.getElem?_eq_getElem (by omega)];rfl,by simp [World.frozen?,hr]⟩
  have h:(execOp A.eval (Opr dst (.store T x y) ty ps af gd)).run prog w= .ok .skip (w.setCells b 0 cs.toList):=by
    unfold execOp Opr;simp only [hx,hy,Instr.storeAt,Instr.sureAddr,Sem.run_bind,Sem.run_pure,Result.andThen_ok,run_storeVar_mid w b 0 T cs ht hi h1]
  refine does_skip h ⟨World.os_setCells w b 0 _,setCells_tape b _ 0 w,World.output_setCells w b 0 _,setCells_size b _ 0 w,?_,fun k hk=> ?_⟩
  · have:=setCells_all b T' cs.toList 0 w cs0.toList (by simpa using hr) (by simp;omega);rw [this];simp [hl,List.drop_eq_nil_of_le]
  · by_cases hlt:k<w.heap.size
    · exact World.heap_setCells_other w b 0 _ hlt hk
    · rw [Array.getElem?_eq_none (by rw [setCells_size];omega),Array.getElem?_eq_none (by omega)]
theorem ixS {s:ByteArray}{j:Nat}{k:Int}(hx:A.eval x= .string s)(hy:A.eval y= .int .i64 (j:Int))(hj:j<s.size)(hk:(s[j].toNat:Int)=k):Does prog (Opr dst (.index 9 x y) ty ps af gd) A w fun v' w'=>v'= .int .u8 k∧Bl w w':=by
  have hj':(j:Int)<(s.size:Int):=by omega
  have h:(execOp A.eval (Opr dst (.index 9 x y) ty ps af gd)).run prog w= .ok (.value (.int .u8 k)) w:=by generalize A.eval=ev at*;simp [execOp,hx,hy,hj',hk,go_sem]
  exact does_value h ⟨rfl,Below.refl _ _⟩
end
end L
theorem fd_any (q:Lt)(m:Msg)(w:World)(hs:m.user.size≤2097152):
    Cr 36 #[.agg (msgL m).toArray,.int .u8 (ltN q:Nat)] w (.tuple #[.string (fld m q),.bool (fok m q)]):=by
  cases q
  · exact fd_u m w hs
  · exact fd_e m w
  · exact fd_o m w
  · exact fd_n m w
  · exact fd_b m w
  · exact fd_m m w
  · exact fd_c m w
theorem wo_any (q:Lt)(m:Msg)(w:World):
    Cr 37 #[.agg (msgL m).toArray,.int .u8 (ltN q:Nat)] w (.agg (msgL (wo m q)).toArray):=by
  cases q
  · exact wo_u m w
  · exact wo_e m w
  · exact wo_o m w
  · exact wo_n m w
  · exact wo_b m w
  · exact wo_m m w
  · exact wo_c m w
theorem cf7e (args:Array Value)(w:World):(callFunc 36 args).run prog w= .ok (.enter 36 args) w:=by kernel_rfl
theorem cf7f (args:Array Value)(w:World):(callFunc 37 args).run prog w= .ok (.enter 37 args) w:=by kernel_rfl
theorem sizeMsg:(prog.info? 40).map (·.size)=some 12:=by kernel_rfl
theorem oneMsg (m:Msg):(msgL m).toArray.all (·.oneCell')=true:=by simp [msgL,Value.oneCell']
theorem ltB_size (l:List Lt):(ltB l).size=l.length:=by show((l.map fun q=>(ltN q).toUInt8).toArray).size=_;simp
theorem ltB_at (l:List Lt)(j:Nat)(q:Lt)(h:l[j]? =some q)(hj:j<(ltB l).size):(((ltB l)[j]).toNat:Int)=((ltN q:Nat):Int):=by
  have e:(ltB l)[j]=(ltN q).toUInt8:=by
    have:(ltB l).data[j]? =some (ltN q).toUInt8:=by
      show((l.map fun q=>(ltN q).toUInt8).toArray)[j]? =_;rw [List.getElem?_toArray,List.getElem?_map,h];rfl
    have h2:=(Array.getElem?_eq_some_iff.1 this);exact h2.2
  rw [e];cases q<;>rfl
theorem conv1 (w:World)(a:Int):(convert 58 9 (.slice (some ⟨w.heap.size,0,none⟩) 1 1)).run prog (w.alloc (Obj.cells #[.int .u8 a] 5))= .ok (.string (strOfNums [a])) (w.alloc (Obj.cells #[.int .u8 a] 5)):=
  run_convert_bytes_arg (P:=prog) (w.alloc (Obj.cells #[.int .u8 a] 5)) 58 5 underlying58 underlying5 w.heap.size 0 1 1 [a] rfl (fun i hi=>by
    have hh:=heap_alloc_new w (Obj.cells #[.int .u8 a] 5);generalize w.alloc (Obj.cells #[.int .u8 a] 5)=W at*;obtain rfl:i=0:=by omega
    simp [World.cell?,hh]) 9 underlying9
theorem pmS_no (m:Msg)(w:World)(hk:kindB m.kind=false):
    Cr 20 #[.agg (msgL m).toArray] w (.string (putM m)):=by
  have hpm:putM m=⟨#[]⟩:=by
    unfold putM;rw [if_neg];intro h;have h1:=(okM_iff.1 h).1;rw [hk] at h1;cases h1
  rw [hpm];unfold kindB at hk;rw [decide_eq_false_iff_not] at hk;have hR:=Bk.new w 40 #[.int .i64 m.kind,.string m.user,int u64 (m.el.1:Int),int u64 (m.el.2.1:Int),.bool m.el.2.2,int u64 (m.ot.1:Int),int u64 (m.ot.2.1:Int),.bool m.ot.2.2,.string m.nonce,.string m.box,.string m.mac,.int .i64 m.code];have hB:=balc w (Obj.cells #[.int .i64 m.kind,.string m.user,int u64 (m.el.1:Int),int u64 (m.el.2.1:Int),.bool m.el.2.2,int u64 (m.ot.1:Int),int u64 (m.ot.2.1:Int),.bool m.ot.2.2,.string m.nonce,.string m.box,.string m.mac,.int .i64 m.code] 40);obtain⟨W,hW⟩:∃W,w.alloc (Obj.cells #[.int .i64 m.kind,.string m.user,int u64 (m.el.1:Int),int u64 (m.el.2.1:Int),.bool m.el.2.2,int u64 (m.ot.1:Int),int u64 (m.ot.2.1:Int),.bool m.ot.2.2,.string m.nonce,.string m.box,.string m.mac,.int .i64 m.code] 40)=W:=⟨_,rfl⟩;rw [hW] at hR hB;have c0:W.cell? ⟨w.heap.size,0,none⟩=some (.int .i64 m.kind):=hR.cell (k:=0) rfl;simp only [msgL];by_cases h1:m.kind<1
  · clear hk;go_enter func20,ntmps20;go_wp2;go_ret;exact⟨rfl,hB⟩
  · have h2:8<m.kind:=by omega
    clear hk;go_enter func20,ntmps20;go_wp2;go_ret;exact⟨rfl,hB⟩
theorem pmS_yes (m:Msg)(w:World)(hf:Fits m)(hk:kindB m.kind=true):
    Cr 20 #[.agg (msgL m).toArray] w (.string (putM m)):=by
  have h1:1≤m.kind:=(of_decide_eq_true hk:1≤m.kind∧m.kind≤8).1;have h2:m.kind≤8:=(of_decide_eq_true hk:1≤m.kind∧m.kind≤8).2;have FL:=fun w=>flS_yes m.kind w hk
  have hk8:IntKind.u8.wrap m.kind=m.kind%256:=by rw [IntKind.wrap_u8]
  have hR:=Bk.new w 40 #[.int .i64 m.kind,.string m.user,int u64 (m.el.1:Int),int u64 (m.el.2.1:Int),.bool m.el.2.2,int u64 (m.ot.1:Int),int u64 (m.ot.2.1:Int),.bool m.ot.2.2,.string m.nonce,.string m.box,.string m.mac,.int .i64 m.code];have hB:=balc w (Obj.cells #[.int .i64 m.kind,.string m.user,int u64 (m.el.1:Int),int u64 (m.el.2.1:Int),.bool m.el.2.2,int u64 (m.ot.1:Int),int u64 (m.ot.2.1:Int),.bool m.ot.2.2,.string m.nonce,.string m.box,.string m.mac,.int .i64 m.code] 40);obtain⟨W,hW⟩:∃W,w.alloc (Obj.cells #[.int .i64 m.kind,.string m.user,int u64 (m.el.1:Int),int u64 (m.el.2.1:Int),.bool m.el.2.2,int u64 (m.ot.1:Int),int u64 (m.ot.2.1:Int),.bool m.ot.2.2,.string m.nonce,.string m.box,.string m.mac,.int .i64 m.code] 40)=W:=⟨_,rfl⟩;rw [hW] at hR hB;have k0:W.cell? ⟨w.heap.size,0,none⟩=some (.int .i64 m.kind):=hR.cell (k:=0) rfl;have hR2:=hR.alloc (Obj.cells #[.int .u8 (m.kind%256)] 5);have hB2:=hB.alloc hB.size (Obj.cells #[.int .u8 (m.kind%256)] 5);have hcv:=conv1 W (m.kind%256);obtain⟨W2,hW2⟩:∃W2,W.alloc (Obj.cells #[.int .u8 (m.kind%256)] 5)=W2:=⟨_,rfl⟩;rw [hW2] at hR2 hB2 hcv;have c0:W2.cell? ⟨w.heap.size,0,none⟩=some (.int .i64 m.kind):=hR2.cell (k:=0) rfl;have c1:W2.cell? ⟨w.heap.size,1,none⟩=some (.string m.user):=hR2.cell (k:=1) rfl;have c2:W2.cell? ⟨w.heap.size,2,none⟩=some (int u64 (m.el.1:Int)):=hR2.cell (k:=2) rfl;have c3:W2.cell? ⟨w.heap.size,3,none⟩=some (int u64 (m.el.2.1:Int)):=hR2.cell (k:=3) rfl;have c4:W2.cell? ⟨w.heap.size,4,none⟩=some (.bool m.el.2.2):=hR2.cell (k:=4) rfl;have c5:W2.cell? ⟨w.heap.size,5,none⟩=some (int u64 (m.ot.1:Int)):=hR2.cell (k:=5) rfl;have c6:W2.cell? ⟨w.heap.size,6,none⟩=some (int u64 (m.ot.2.1:Int)):=hR2.cell (k:=6) rfl;have c7:W2.cell? ⟨w.heap.size,7,none⟩=some (.bool m.ot.2.2):=hR2.cell (k:=7) rfl;have c8:W2.cell? ⟨w.heap.size,8,none⟩=some (.string m.nonce):=hR2.cell (k:=8) rfl;have c9:W2.cell? ⟨w.heap.size,9,none⟩=some (.string m.box):=hR2.cell (k:=9) rfl;have c10:W2.cell? ⟨w.heap.size,10,none⟩=some (.string m.mac):=hR2.cell (k:=10) rfl;have c11:W2.cell? ⟨w.heap.size,11,none⟩=some (.int .i64 m.code):=hR2.cell (k:=11) rfl;have hR3:=hR2.alloc (Obj.cells #[.int .i64 m.kind,.string m.user,int u64 (m.el.1:Int),int u64 (m.el.2.1:Int),.bool m.el.2.2,int u64 (m.ot.1:Int),int u64 (m.ot.2.1:Int),.bool m.ot.2.2,.string m.nonce,.string m.box,.string m.mac,.int .i64 m.code] 40);have hZ3:=Bk.new W2 40 #[.int .i64 m.kind,.string m.user,int u64 (m.el.1:Int),int u64 (m.el.2.1:Int),.bool m.el.2.2,int u64 (m.ot.1:Int),int u64 (m.ot.2.1:Int),.bool m.ot.2.2,.string m.nonce,.string m.box,.string m.mac,.int .i64 m.code];have hB3:=hB2.alloc hB2.size (Obj.cells #[.int .i64 m.kind,.string m.user,int u64 (m.el.1:Int),int u64 (m.el.2.1:Int),.bool m.el.2.2,int u64 (m.ot.1:Int),int u64 (m.ot.2.1:Int),.bool m.ot.2.2,.string m.nonce,.string m.box,.string m.mac,.int .i64 m.code] 40);obtain⟨W3,hW3⟩:∃W3,W2.alloc (Obj.cells #[.int .i64 m.kind,.string m.user,int u64 (m.el.1:Int),int u64 (m.el.2.1:Int),.bool m.el.2.2,int u64 (m.ot.1:Int),int u64 (m.ot.2.1:Int),.bool m.ot.2.2,.string m.nonce,.string m.box,.string m.mac,.int .i64 m.code] 40)=W3:=⟨_,rfl⟩;rw [hW3] at hR3 hZ3 hB3;have k3:W3.cell? ⟨w.heap.size,0,none⟩=some (.int .i64 m.kind):=hR3.cell (k:=0) rfl;simp only [msgL];go_enter func20,ntmps20;go_wp2_with fail;refine(FL _).mono ?_;rintro e w1 ⟨rfl,b1⟩;replace hR3:=hR3.keep b1;replace hZ3:=hZ3.keep b1;replace hB3:=hB3.tr b1;have hB2':w.heap.size≤W2.heap.size:=hB2.size;have hne0':w.heap.size≠W2.heap.size:=Nat.ne_of_lt hR2.lt;clear FL b1 hW hW2 hW3 c0 c1 c2 c3 c4 c5 c6 c7 c8 c9 c10 c11 k0 k3 hcv hR2 hR hB hB2 hk8;obtain⟨r4,hr4⟩:∃r,r=W2.heap.size:=⟨_,rfl⟩;obtain⟨r0,hr0⟩:∃r,r=w.heap.size:=⟨_,rfl⟩;have hlo:w.heap.size≤r4:=by rw [hr4];exact hB2'
  have hne0:r0≠r4:=by rw [hr0,hr4];exact hne0'
  rw [←hr4] at hZ3;rw [←hr0] at hR3;simp only [←hr4,←hr0];clear hr4 hr0 hB2' hne0';obtain⟨n,hn⟩:∃n,(flds m.kind).length=n:=⟨_,rfl⟩
  have hn8:n≤8:=by
    rw [←hn];rcases kind_cases hk with h|h|h|h|h|h|h|h<;>(rw [h];decide)
  have hls:(ltB (flds m.kind)).size=n:=(ltB_size _).trans hn
  have hix:Hid (∀j,j<n→∃q,(flds m.kind)[j]? =some q∧∀hj,(((ltB (flds m.kind))[j]'hj).toNat:Int)=((ltN q:Nat):Int)):=fun j hj=>
    ⟨(flds m.kind)[j]'(by omega),List.getElem?_eq_getElem (by omega),fun h=>ltB_at _ _ _ (List.getElem?_eq_getElem (by omega)) h⟩
  generalize ltB (flds m.kind)=LB at*;go_wp2
  go_loopw [3,6] (fun ov iv wr=>∃j:Nat,j≤n∧iv= .int .i64 (j:Int)∧ov= .string (byB m.kind++cat m ((flds m.kind).take j))∧Bk wr 40 r0 (msgL m).toArray∧Bk wr 40 r4 (msgL (((flds m.kind).take j).foldl wo m)).toArray∧Hid (((flds m.kind).take j).all (fok m)=true)∧Bl w wr) (fun _ i _=>n-(intOf i).toNat)
  case atStart=>exact ⟨0,by omega,rfl,by rw [List.take_zero];show Value.string _= .string (byB m.kind++(⟨#[]⟩:ByteArray));rw [app0];rfl,hR3,hZ3,rfl,hB3⟩
  case round=>
    clear hR3 hZ3 hB3;obtain⟨j,hj,rfl,rfl,hRj,hZj,hal,hBj⟩:=hrel;by_cases hlt:j<n
    · have hli:(j:Int)<(LB.size:Int):=by omega
      obtain⟨q,hq,hxq⟩:=hix.out j hlt;have hjl:j<LB.size:=by omega
      have htk:byB m.kind++cat m ((flds m.kind).take (j+1))=byB m.kind++cat m ((flds m.kind).take j)++fld m q:=by
        rw [List.take_add_one,hq,ByteArray.append_assoc,←cat_snoc];rfl
      have htw:((flds m.kind).take (j+1)).foldl wo m=wo (((flds m.kind).take j).foldl wo m) q:=by
        rw [List.take_add_one,hq,List.foldl_append];rfl
      have hta:((flds m.kind).take (j+1)).all (fok m)=(((flds m.kind).take j).all (fok m)&&fok m q):=by
        rw [List.take_add_one,hq,List.all_append];simp
      have hzz:=cat_take m (flds m.kind) (j+1);have hza:=hf.all
      have hz2:(byB m.kind++cat m ((flds m.kind).take j)).size+(fld m q).size≤9223372036854775807:=by
        have h1:=congrArg ByteArray.size htk;rw [ByteArray.size_append,ByteArray.size_append] at h1;have h2:(byB m.kind).size=1:=by unfold byB;rw [strOfNums_size];rfl
        omega
      obtain⟨tj,htj⟩:∃tj,Hid (tj=byB m.kind++cat m ((flds m.kind).take j)):=⟨_,rfl⟩;rw [←htj.out] at hz2⊢;obtain⟨r,hr⟩:∃r,Hid (r=((flds m.kind).take j).foldl wo m):=⟨_,rfl⟩;rw [←hr.out] at hZj;clear hzz hza;go_wp2
      refine G.pool_list (W:=wr) [] [.val (.agg (msgL m).toArray),
          .val (.string LB),
          .val (.int .i64 (j:Int)),
          .val (.int .u8 ((ltN q:Nat):Int)),
          .val (.tuple #[.string (fld m q),.bool (fok m q)]),
          .val (.tuple #[.string (fld m q),.bool (fok m q)]),
          .val (.string (fld m q)),
          .val (.bool (fok m q)),
          .val (.string (fld m q)),
          .val (.bool (fok m q))] [[1],[5],[6],[34,35],[33,36],[37],[32],[32],[38],[39]] (fun f=> [(some 33,.agg (msgL m).toArray),(some 34,.string LB),(some 35,.int .i64 (j:Int)),(some 36,.int .u8 ((ltN q:Nat):Int)),(some 37,.tuple #[.string (fld m q),.bool (fok m q)]),(some 32,.tuple #[.string (fld m q),.bool (fok m q)]),(some 38,.string (fld m q)),(some 39,.bool (fok m q)),(some 7,.string (fld m q)),(some 8,.bool (fok m q))]) (by kernel_rfl) (by kernel_rfl) (by kernel_rfl) (by kernel_rfl) (fun _=>by kernel_rfl) (G.last_of [] (fun F R hm=>by simp at hm) (fun ob ob' k hm=>by simp at hm) (fun b ob ob' hm=>by simp at hm)) (fun b ob ob' hm=>by simp at hm) ?_ ?_
      · intro ix hix
        match ix,hix with
        |0,_=>exact G.obv [(1,.pointer (some ⟨r0,0,none⟩))] rfl rfl (fun A w ⟨e0,_⟩ hB=>L.ldM e0 (sideBk hB hRj) rfl)
        |1,_=>exact G.obv [(5,.string LB)] rfl rfl (fun A w ⟨e0,_⟩ hB=>L.move e0)
        |2,_=>exact G.obv [(6,.int .i64 (j:Int))] rfl rfl (fun A w ⟨e0,_⟩ hB=>L.move e0)
        |3,_=>exact G.obv [(34,.string LB),(35,.int .i64 (j:Int))] rfl rfl (fun A w ⟨e0,e1,_⟩ hB=>L.ixS e0 e1 hjl (hxq hjl))
        |4,_=>exact G.obv [(33,.agg (msgL m).toArray),(36,.int .u8 ((ltN q:Nat):Int))] rfl rfl (fun A w ⟨e0,e1,_⟩ hB=>L.cl2 cf7e e0 e1 (fd_any q m w hf.us))
        |5,_=>exact G.obv [(37,.tuple #[.string (fld m q),.bool (fok m q)])] rfl rfl (fun A w ⟨e0,_⟩ hB=>L.move e0)
        |6,_=>exact G.obv [(32,.tuple #[.string (fld m q),.bool (fok m q)])] rfl rfl (fun A w ⟨e0,_⟩ hB=>L.xt0 e0)
        |7,_=>exact G.obv [(32,.tuple #[.string (fld m q),.bool (fok m q)])] rfl rfl (fun A w ⟨e0,_⟩ hB=>L.xt1 e0)
        |8,_=>exact G.obv [(38,.string (fld m q))] rfl rfl (fun A w ⟨e0,_⟩ hB=>L.assign e0)
        |9,_=>exact G.obv [(39,.bool (fok m q))] rfl rfl (fun A w ⟨e0,_⟩ hB=>L.assign e0)
        |ix+10,h=>exact absurd h (by simp)
      intro f W4 hS y1 y2 y3 y4;have b4:Bl wr W4:=(Below.refl _ wr).drew.trans hS.below;replace hRj:=hRj.keep b4;replace hZj:=hZj.keep b4;replace hBj:=hBj.tr b4;clear hS b4 y1 y2 y3 y4;simp only [puts,List.foldl,Act.put,List.setIfInBounds_toArray,List.set_cons_zero,List.set_cons_succ]
      cases hfk:fok m q with
      | false=>
        have hpm:putM m=⟨#[]⟩:=by
          unfold putM;rw [if_neg];intro h;have h3:=List.all_eq_true.1 (okM_iff.1 h).2.1 q (List.mem_of_getElem? hq);rw [hfk] at h3;cases h3
        go_wp2;go_ret;exact⟨by rw [hpm];rfl,hBj⟩
      | true=>
        go_wp2
        refine G.pool_prT (W:=W4) [] 5 [.val (.agg (msgL r).toArray),
            .val (.string LB),
            .val (.int .i64 (j:Int)),
            .val (.int .u8 ((ltN q:Nat):Int)),
            .val (.agg (msgL (wo r q)).toArray)] [[4],[5],[6],[46,47],[45,48],[4,49]] (fun f=> [(some 45,.agg (msgL r).toArray),(some 46,.string LB),(some 47,.int .i64 (j:Int)),(some 48,.int .u8 ((ltN q:Nat):Int)),(some 49,.agg (msgL (wo r q)).toArray)]) (by kernel_rfl) (by kernel_rfl) (by kernel_rfl) (by kernel_rfl) (by decide) (by kernel_rfl) (fun _=>by kernel_rfl) (G.last_of [] (fun F R hm=>by simp at hm) (fun ob ob' k hm=>by simp at hm) (fun b ob ob' hm=>by simp at hm)) (fun b ob ob' hm=>by simp at hm) ?_ ?_
        · intro ix hix
          match ix,hix with
          |0,_=>exact G.obv [(4,.pointer (some ⟨r4,0,none⟩))] rfl rfl (fun A w ⟨e0,_⟩ hB=>L.ldM e0 (sideBk hB hZj) rfl)
          |1,_=>exact G.obv [(5,.string LB)] rfl rfl (fun A w ⟨e0,_⟩ hB=>L.move e0)
          |2,_=>exact G.obv [(6,.int .i64 (j:Int))] rfl rfl (fun A w ⟨e0,_⟩ hB=>L.move e0)
          |3,_=>exact G.obv [(46,.string LB),(47,.int .i64 (j:Int))] rfl rfl (fun A w ⟨e0,e1,_⟩ hB=>L.ixS e0 e1 hjl (hxq hjl))
          |4,_=>exact G.obv [(45,.agg (msgL r).toArray),(48,.int .u8 ((ltN q:Nat):Int))] rfl rfl (fun A w ⟨e0,e1,_⟩ hB=>L.cl2 cf7f e0 e1 (wo_any q r w))
          |ix+5,h=>exact absurd h (by omega)
        intro f2 W5 hS y1 y2 y3 fuel hfuel;have b5:Bl W4 W5:=(Below.refl _ W4).drew.trans hS.below;replace hRj:=hRj.keep b5;replace hZj:=hZj.keep b5;replace hBj:=hBj.tr b5;clear hS b5 y1 y2 y3;simp only [puts,List.foldl,Act.put,List.setIfInBounds_toArray,List.set_cons_zero,List.set_cons_succ];refine last_do1 5 hfuel (by kernel_rfl) (by kernel_rfl) rfl rfl ?_;refine fun Q K hK=>L.puA (cs:=(msgL (wo r q)).toArray) rfl rfl hZj rfl sizeMsg (oneMsg _) Q K (fun v w' hT=>hK v w' ?_)
        have hZ6:Bk w' 40 r4 (msgL (wo r q)).toArray:=hT.self;have hg:W5.grownBy w' (some r4):=⟨hT.os,hT.tape,hT.output,by rw [hT.size];exact Nat.le_refl _,fun k _ hk=>hT.other k (fun e=>hk (by rw [e]))⟩;have hR6:=hRj.keptBy hg (by simpa using hne0);have hB6:=belowG hBj hg hlo hBj.size;clear hT hg hRj hZj hBj;go_wp2;go_round
        case rel=>exact ⟨j+1,by omega,by go_num,by rw [htk,htj.out],hR6,by rw [htw,←hr.out];exact hZ6,by show _=true;rw [hta,hal.out,hfk];rfl,hB6⟩
        case measure=>simp [intOf];omega
    · obtain rfl:j=n:=by omega
      have hli:(LB.size:Int)≤(j:Int):=by omega
      rw [List.take_of_length_le (by omega)] at hal hZj⊢;obtain⟨r,hr⟩:∃r,Hid (r=(flds m.kind).foldl wo m):=⟨_,rfl⟩;rw [←hr.out] at hZj;obtain⟨tj,htj⟩:∃tj,Hid (tj=byB m.kind++cat m (flds m.kind)):=⟨_,rfl⟩;rw [←htj.out];have k0:wr.cell? ⟨r0,0,none⟩=some (.int .i64 m.kind):=hRj.cell (k:=0) rfl;have c0:wr.cell? ⟨r4,0,none⟩=some (.int .i64 r.kind):=hZj.cell (k:=0) rfl;have c1:wr.cell? ⟨r4,1,none⟩=some (.string r.user):=hZj.cell (k:=1) rfl;have c2:wr.cell? ⟨r4,2,none⟩=some (int u64 (r.el.1:Int)):=hZj.cell (k:=2) rfl;have c3:wr.cell? ⟨r4,3,none⟩=some (int u64 (r.el.2.1:Int)):=hZj.cell (k:=3) rfl;have c4:wr.cell? ⟨r4,4,none⟩=some (.bool r.el.2.2):=hZj.cell (k:=4) rfl;have c5:wr.cell? ⟨r4,5,none⟩=some (int u64 (r.ot.1:Int)):=hZj.cell (k:=5) rfl;have c6:wr.cell? ⟨r4,6,none⟩=some (int u64 (r.ot.2.1:Int)):=hZj.cell (k:=6) rfl;have c7:wr.cell? ⟨r4,7,none⟩=some (.bool r.ot.2.2):=hZj.cell (k:=7) rfl;have c8:wr.cell? ⟨r4,8,none⟩=some (.string r.nonce):=hZj.cell (k:=8) rfl;have c9:wr.cell? ⟨r4,9,none⟩=some (.string r.box):=hZj.cell (k:=9) rfl;have c10:wr.cell? ⟨r4,10,none⟩=some (.string r.mac):=hZj.cell (k:=10) rfl;have c11:wr.cell? ⟨r4,11,none⟩=some (.int .i64 r.code):=hZj.cell (k:=11) rfl;have hqq:∀w,(Go.binOp .neq 40 (.agg #[.int .i64 r.kind,.string r.user,int u64 (r.el.1:Int),int u64 (r.el.2.1:Int),.bool r.el.2.2,int u64 (r.ot.1:Int),int u64 (r.ot.2.1:Int),.bool r.ot.2.2,.string r.nonce,.string r.box,.string r.mac,.int .i64 r.code]) (.agg #[.int .i64 m.kind,.string ⟨#[]⟩,int u64 0,int u64 0,.bool false,int u64 0,int u64 0,.bool false,.string ⟨#[]⟩,.string ⟨#[]⟩,.string ⟨#[]⟩,.int .i64 0])).run prog w= .ok (.bool (!decide (r={kind:=m.kind}))) w:=fun w=>neqM r {kind:=m.kind} w
      by_cases hd:r={kind:=m.kind}
      · rw [decide_eq_true hd] at hqq
        have hpm:putM m=tj:=by
          unfold putM;rw [if_pos (okM_iff.2 ⟨hk,hal.out,by rw [←hr.out];exact hd⟩),htj.out]
        clear hd hr htj hix;go_wp2;go_ret;exact⟨by rw [hpm];rfl,hBj⟩
      · rw [decide_eq_false hd] at hqq
        have hpm:putM m=⟨#[]⟩:=by
          unfold putM;rw [if_neg];intro h;exact hd (by rw [hr.out];exact(okM_iff.1 h).2.2)
        clear hd hr htj hix;go_wp2;go_ret;exact⟨by rw [hpm];rfl,hBj⟩
theorem pmS (m:Msg)(w:World)(hf:Fits m):
    Cr 20 #[.agg (msgL m).toArray] w (.string (putM m)):=by
  by_cases hk:kindB m.kind=true
  · exact pmS_yes m w hf hk
  · rw [Bool.not_eq_true] at hk;exact pmS_no m w hk
end Go.Proofs.Ytnfbfpegagcanaa
namespace Go.Proofs.Ytnfbfpegagcanaa
open Go.Proofs.Try Go.RowKit
open Go.Value (int)
open Go.IntKind (u64)
theorem bt_at (t:ByteArray)(i:Nat)(h:i<t.size):(t[i].toNat:Int)=(bt t i:Int):=by
  unfold bt;rw [Array.getD_eq_getD_getElem?,Array.getElem?_eq_getElem (show i<t.data.size from h)];rfl
theorem szS_u (s:ByteArray)(i:Nat)(w:World)(hs:s.size≤1099511627776)(hi:i≤s.size):
    Cr 40 #[.string s,.int .i64 (i:Int),.int .u8 117] w (.int .i64 (szS s i .u:Nat)):=by
  by_cases h:i+2≤s.size
  · have e:szS s i .u=2+bt s i*256+bt s (i+1):=by unfold szS;rw [if_pos h]
    have h1:(i:Int)+2≤(s.size:Int):=by omega
    have h2:(i:Int)<(s.size:Int):=by omega
    have h3:(i:Int)+1<(s.size:Int):=by omega
    have b0:=bt_at s i (by omega);have b1:=bt_at s (i+1) (by omega);have l0:=s[i].toNat_lt;have l1:=s[i+1].toNat_lt;have w0:IntKind.i64.wrap ((s[i]'(by omega)).toNat:Int)=((s[i]'(by omega)).toNat:Int):=by rw [IntKind.wrap_i64];omega
    have w1:IntKind.i64.wrap ((s[i+1]'(by omega)).toNat:Int)=((s[i+1]'(by omega)).toNat:Int):=by rw [IntKind.wrap_i64];omega
    rw [e];go_enter func40,ntmps40;go_wp2;go_quiet (fail);go_wp2;have hr:(Value.int .i64 (2+(bt s i:Int)*256+(bt s (i+1):Int)))= .int .i64 ((2+bt s i*256+bt s (i+1):Nat):Int):=by congr 1
    go_ret;exact⟨congrArg Ending.returned hr,rfl,rfl,rfl,Nat.le_refl _,fun _ _=>rfl⟩
  · have e:szS s i .u=2:=by unfold szS;rw [if_neg h]
    have h1:(s.size:Int)<(i:Int)+2:=by omega
    rw [e];go_enter func40,ntmps40;go_wp2;go_ret;exact⟨rfl,Below.refl _ _⟩
theorem szS_r (q:Lt)(hq:q≠ .u)(s:ByteArray)(i:Nat)(w:World):
    Calls prog 40 #[.string s,.int .i64 (i:Int),.int .u8 (ltN q)] w fun e w'=>e= .returned (.int .i64 (szS s i q:Nat))∧w=w':=by
  cases q with
  |u=>exact absurd rfl hq
  | e=>
    show Calls prog 40 #[.string s,.int .i64 (i:Int),.int .u8 101] w _;go_enter func40,ntmps40;go_wp2;go_ret;exact⟨rfl,rfl⟩
  | o=>
    show Calls prog 40 #[.string s,.int .i64 (i:Int),.int .u8 111] w _;go_enter func40,ntmps40;go_wp2;go_ret;exact⟨rfl,rfl⟩
  | n=>
    show Calls prog 40 #[.string s,.int .i64 (i:Int),.int .u8 110] w _;go_enter func40,ntmps40;go_wp2;go_ret;exact⟨rfl,rfl⟩
  | b=>
    show Calls prog 40 #[.string s,.int .i64 (i:Int),.int .u8 98] w _;go_enter func40,ntmps40;go_wp2;go_ret;exact⟨rfl,rfl⟩
  | m=>
    show Calls prog 40 #[.string s,.int .i64 (i:Int),.int .u8 109] w _;go_enter func40,ntmps40;go_wp2;go_ret;exact⟨rfl,rfl⟩
  | c=>
    show Calls prog 40 #[.string s,.int .i64 (i:Int),.int .u8 99] w _;go_enter func40,ntmps40;go_wp2;go_ret;exact⟨rfl,rfl⟩
theorem set_any (q:Lt)(m:Msg)(t:ByteArray)(w:World)(hu:q= .u→2≤t.size∧t.size≤2097152)(hc:q= .c→1≤t.size):
    Cr 41 #[.agg (msgL m).toArray,.int .u8 (ltN q:Nat),.string t] w (.agg (msgL (setS m t q)).toArray):=by
  cases q
  · exact set_u m t w (hu rfl).1 (hu rfl).2
  · exact set_e m t w
  · exact set_o m t w
  · exact set_n m t w
  · exact set_b m t w
  · exact set_m m t w
  · exact set_c m t w (hc rfl)
theorem sz_any (q:Lt)(s:ByteArray)(i:Nat)(w:World)(hs:s.size≤1099511627776)(hi:i≤s.size):
    Cr 40 #[.string s,.int .i64 (i:Int),.int .u8 (ltN q:Nat)] w (.int .i64 (szS s i q:Nat)):=by
  by_cases h:q= .u
  · subst h;exact szS_u s i w hs hi
  · exact(szS_r q h s i w).mono fun e w' ⟨h1,h2⟩=>⟨h1,h2▸Below.refl _ _⟩
theorem sz_ge (q:Lt)(s:ByteArray)(i:Nat):1≤szS s i q∧(q= .u→2≤szS s i q)∧szS s i q≤65537:=by
  cases q with
  | u=>
    have h0:bt s i<256:=by unfold bt;exact UInt8.toNat_lt _
    have h1:bt s (i+1)<256:=by unfold bt;exact UInt8.toNat_lt _
    show 1≤(if i+2≤s.size then 2+bt s i*256+bt s (i+1) else 2)∧(_→2≤(if i+2≤s.size then 2+bt s i*256+bt s (i+1) else 2))∧(if i+2≤s.size then 2+bt s i*256+bt s (i+1) else 2)≤65537;split
    · exact⟨by omega,fun _=>by omega,by omega⟩
    · exact⟨by omega,fun _=>by omega,by omega⟩
  |e=>exact ⟨show 1≤8 by decide,(fun h=>by cases h),show 8≤65537 by decide⟩
  |o=>exact ⟨show 1≤8 by decide,(fun h=>by cases h),show 8≤65537 by decide⟩
  |n=>exact ⟨show 1≤16 by decide,(fun h=>by cases h),show 16≤65537 by decide⟩
  |b=>exact ⟨show 1≤48 by decide,(fun h=>by cases h),show 48≤65537 by decide⟩
  |m=>exact ⟨show 1≤32 by decide,(fun h=>by cases h),show 32≤65537 by decide⟩
  |c=>exact ⟨show 1≤1 by decide,(fun h=>by cases h),show 1≤65537 by decide⟩
end Go.Proofs.Ytnfbfpegagcanaa
