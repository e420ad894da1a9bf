import Derived.Test.YtnfbfpegagcanaaMrg1
import Derived.Deep.Upon
import Derived.Lib.ConvBytes
import Derived.Deep.RegionHeld3
import Derived.BigQuiet
import Derived.Deep.DrawnRows
set_option linter.unusedVariables false
set_option maxRecDepth 100000
set_option maxHeartbeats 16000000
namespace Go.Proofs.Ytnfbfpegagcanaa
open Go.Proofs.Try Go.RowKit
open Go.Value (int)
open Go.IntKind (u64)
section
open Go
structure Row (w:World)(base g n cap:Nat)(xs:List Value):Prop where
  lo:base≤g
  hi:g<w.heap.size
  len:xs.length=n
  le:n≤cap
  max:cap≤maxLen
  cells:∀j u,xs[j]? =some u→w.cell? ⟨g,j,none⟩=some u
  room:∀j,j<cap→(w.cell? ⟨g,j,none⟩).isSome=true∧w.frozen? ⟨g,j,none⟩=false
theorem Row.same {w w':World}{base g n cap:Nat}{xs:List Value}(h:Row w base g n cap xs)(hb:w'.heap[g]? =w.heap[g]?)(hs:w.heap.size≤w'.heap.size):Row w' base g n cap xs:=
  ⟨h.lo,Nat.lt_of_lt_of_le h.hi hs,h.len,h.le,h.max,fun j u hu=>(World.cell?_of_block (w:=w) (a:=⟨g,j,none⟩) hb).trans (h.cells j u hu),
    fun j hj=>⟨by rw [World.cell?_of_block (w:=w) (a:=⟨g,j,none⟩) hb];exact(h.room j hj).1,by rw [World.frozen?_of_block (w:=w) (a:=⟨g,j,none⟩) hb];exact(h.room j hj).2⟩⟩
theorem Row.alloc {w:World}{base g n cap:Nat}{xs:List Value}(h:Row w base g n cap xs)(o:Obj):Row (w.alloc o) base g n cap xs:=
  h.same (Below.heap_alloc w o g h.hi) (by simp)
theorem Row.of_block {w:World}{base g:Nat}{cs:Array Value}{t:TypeId}{n:Nat}(hg:w.heap[g]? =some (.cells cs t (0,0)))(hb:base≤g)(hn:n≤cs.size)(hm:cs.size≤maxLen):Row w base g n cs.size (cs.toList.take n):=by
  refine⟨hb,(Array.getElem?_eq_some_iff.1 hg).1,by simp;omega,hn,hm,fun j u hu=> ?_,fun j hj=>⟨?_,frozen_of_row w g j cs t hg⟩⟩
  · rw [cell_of_row w g j cs t (0,0) hg];rw [List.getElem?_take] at hu;split at hu
    · simpa using hu
    · cases hu
  · rw [cell_of_row w g j cs t (0,0) hg,Array.getElem?_eq_getElem hj];rfl
theorem Row.cell {w:World}{base g n cap:Nat}{k:IntKind}{xs:List Int}(h:Row w base g n cap (xs.map (Value.int k)))(j:Nat)(hj:j<n):w.cell? ⟨g,j,none⟩=some (.int k (lk xs j)):=by
  have hl:=h.len;rw [List.length_map] at hl;refine h.cells j _ ?_;unfold lk;rw [List.getElem?_map,List.getElem?_eq_getElem (by omega),List.getD_eq_getElem?_getD,List.getElem?_eq_getElem (by omega)];rfl
theorem setCells_tape (b:Nat):∀(vs:List Value) (o:Nat) (w:World),(w.setCells b o vs).tape=w.tape
  | [],_,_=>rfl
  |v::r,o,w=>by rw [World.setCells,setCells_tape b r];rfl
theorem setCells_size (b:Nat):∀(vs:List Value) (o:Nat) (w:World),(w.setCells b o vs).heap.size=w.heap.size
  | [],_,_=>rfl
  |v::r,o,w=>by rw [World.setCells,setCells_size b r];simp
theorem setCells_grown (w:World)(b o:Nat)(vs:List Value):w.grownBy (w.setCells b o vs) (some b):=
  ⟨World.os_setCells w b o vs,setCells_tape b vs o w,World.output_setCells w b o vs,by rw [setCells_size];exact Nat.le_refl _,fun k hk hne=>World.heap_setCells_other w b o vs hk (fun e=>hne (by rw [e]))⟩
theorem run_append_row {P:Program}(w:World)(t ty:TypeId)(base:Nat)(e:TypeId)(i:TypeInfo)(z:Value)(bytes:Nat)(ht:P.underlying t=some (.slice e))(hi:P.info? e=some i)(hz:i.zero=some z)
    (hsize:i.size=1)(hby:i.bytes=bytes)(hzs:z.cells.size=1)
    (g n cap:Nat)(xs:List Value)(hown:Row w base g n cap xs)
    (ad:Addr)(m c:Nat)(news:List Value)(hl:news.length=m)(hnews:∀j u,news[j]? =some u→w.cell? (ad.add j)=some u)(h1:∀u∈news,u.oneCell'=true)
    (h63:n+m≤maxLen)(hbytes:(n+m)*bytes≤140737488355328)(hbase:base≤w.heap.size)(H:Nat)(hH:w.heap.size=H):
    ∃ g' cap' w',(Builtin.append_ #[t,t] ty #[.slice (some ⟨g,0,none⟩) n cap,.slice (some ad) m c]).run P w= .ok (.slice (some ⟨g',0,none⟩) (n+m) cap') w'∧
      Row w' base g' (n+m) cap' (xs++news)∧w.grownBy w' (some g)∧(g'=g∨g'=H)∧(∀j u,xs[j]? =some u→w'.cell? ⟨g,j,none⟩=some u):=by
  have hlx:=hown.len;by_cases hroom:n+m≤cap
  · have hr:=run_append_room_cells (P:=P) w t ty e i ht hi g 0 n cap ad m c news (by rw [hsize,hl];omega) hnews h1 hroom
      (fun j hj=>by rw [hsize];exact(hown.room _ (by omega)).1) (fun j hj=>by rw [hsize];exact(hown.room _ (by omega)).2)
    rw [hsize,Nat.zero_add,Nat.mul_one] at hr
    have hk:∀j u,xs[j]? =some u→(w.setCells g n news).cell? ⟨g,j,none⟩=some u:=fun j u hu=>by
      have hj:j<xs.length:=(List.getElem?_eq_some_iff.1 hu).1;rw [World.cell?_setCells_out g news n w ⟨g,j,none⟩ (fun _ _=> .inl (by show j<n;omega))];exact hown.cells j u hu
    refine⟨g,cap,_,hr,⟨hown.lo,by rw [setCells_size];exact hown.hi,by rw [List.length_append];omega,hroom,hown.max,fun j u hu=> ?_,fun j hj=> ?_⟩,setCells_grown w g n news,.inl rfl,hk⟩
    · by_cases hj:j<xs.length
      · rw [List.getElem?_append_left hj] at hu;exact hk j u hu
      · rw [List.getElem?_append_right (by omega)] at hu;have hj2:j-xs.length<news.length:=(List.getElem?_eq_some_iff.1 hu).1;have:=World.cell?_setCells_in g news n w (fun q hq=>(hown.room _ (by omega)).1) (j-xs.length) hj2;rw [show n+(j-xs.length)=j by omega] at this;rw [this,←hu,List.getElem?_eq_getElem hj2]
    · exact⟨World.isSome_setCells g news n w _ (hown.room j hj).1,by rw [World.frozen?_setCells];exact(hown.room j hj).2⟩
  · have holds:∀j u,xs[j]? =some u→w.cell? ((⟨g,0,none⟩:Addr).add j)=some u:=fun j u hu=>by rw [Addr.add_mid,Nat.zero_add];exact hown.cells j u hu
    have hr:=run_append_grow (P:=P) w t ty e i z ht hi hz ⟨g,0,none⟩ n cap xs (by rw [hsize];omega) holds ad m c news (by rw [hsize];omega) hnews (by omega) (by simp only [maxLen] at h63;omega) (growslice_fits (by omega) (by rw [hby];exact hbytes));have hge:=grownCap_ge w (n+m) cap e;have hcm:grownCap w (n+m) cap e≤maxLen:=grownCap_le_maxLen w (n+m) cap e h63
    have hsz:(xs.toArray++news.toArray++Builtin.zeroCells z.cells (grownCap w (n+m) cap e-(n+m))).size=grownCap w (n+m) cap e:=by
      simp only [Array.size_append,List.size_toArray,size_zeroCells,hzs];omega
    have hblk:=Row.of_block (w:=w.drew.alloc (.cells (xs.toArray++news.toArray++Builtin.zeroCells z.cells (grownCap w (n+m) cap e-(n+m))) e)) (base:=base) (g:=w.heap.size) (n:=n+m) (heap_alloc_new w.drew _) hbase (by rw [hsz];exact hge) (by rw [hsz];exact hcm);rw [hsz] at hblk
    have htk:(xs.toArray++news.toArray++Builtin.zeroCells z.cells (grownCap w (n+m) cap e-(n+m))).toList.take (n+m)=xs++news:=by
      simp only [Array.toList_append];rw [List.take_append_of_le_length (by simp;omega),List.take_of_length_le (by simp;omega)]
    rw [htk] at hblk;refine⟨w.heap.size,_,_,hr,hblk,⟨rfl,rfl,rfl,by simp,fun k hk _=>heap_alloc_old w.drew _ hk⟩,.inr hH,fun j u hu=> ?_⟩;rw [World.cell?_of_block (w:=w) (a:=⟨g,j,none⟩) (heap_alloc_old w.drew _ hown.hi)];exact hown.cells j u hu
section
variable {P:Program}{w:World}
theorem wp_append_row {o:Oper}{a:Act}{K:Act→World→Prop}{Q:Exit→Act→World→Prop}(s x:Operand)(t:TypeId)
    (ho:o.op= .call {callee:= .builtin .append,args:=#[s,x],argTypes:=#[t,t]})
    (base:Nat)(e:TypeId)(i:TypeInfo)(z:Value)(bytes:Nat)(ht:P.underlying t=some (.slice e))(hi:P.info? e=some i)(hz:i.zero=some z)
    (hsize:i.size=1)(hby:i.bytes=bytes)(hzs:z.cells.size=1)
    (g n cap:Nat)(xs:List Value)(hs:a.eval s= .slice (some ⟨g,0,none⟩) n cap)(hown:Row w base g n cap xs)
    (ad:Addr)(m c:Nat)(news:List Value)(hx:a.eval x= .slice (some ad) m c)(hl:news.length=m)(hnews:∀j u,news[j]? =some u→w.cell? (ad.add j)=some u)(h1:∀u∈news,u.oneCell'=true)
    (h63:n+m≤maxLen)(hbytes:(n+m)*bytes≤140737488355328)(hbase:base≤w.heap.size)(H:Nat)(hH:w.heap.size=H)
    (h:∀g' cap' w',Row w' base g' (n+m) cap' (xs++news)→w.grownBy w' (some g)→(g'=g∨g'=H)→(∀j u,xs[j]? =some u→w'.cell? ⟨g,j,none⟩=some u)→K (a.put o.dst (.slice (some ⟨g',0,none⟩) (n+m) cap')) w'):o.wp P a w K Q:=by
  obtain⟨g',cap',w',hr,h2,h3,h4,h5⟩:=run_append_row (P:=P) w t o.type base e i z bytes ht hi hz hsize hby hzs g n cap xs hown ad m c news hl hnews h1 h63 hbytes hbase H hH;unfold Oper.wp execOp;simp only [ho,resolve,invoke,builtin,Sem.run_bind,Sem.run_pure,Result.andThen_ok,List.map_toArray,List.map_cons,List.map_nil,hs,hx,hr];exact h g' cap' w' h2 h3 h4 h5
theorem wpList_append_row {ops:Array Oper}{rest:List Oper}{o:Oper}{a:Act}{Q:Exit→Act→World→Prop}(hgd:o.guard=none)(s x:Operand)(t:TypeId)
    (ho:o.op= .call {callee:= .builtin .append,args:=#[s,x],argTypes:=#[t,t]})
    (base:Nat)(e:TypeId)(i:TypeInfo)(z:Value)(bytes:Nat)(ht:P.underlying t=some (.slice e))(hi:P.info? e=some i)(hz:i.zero=some z)
    (hsize:i.size=1)(hby:i.bytes=bytes)(hzs:z.cells.size=1)
    (g n cap:Nat)(xs:List Value)(hs:a.eval s= .slice (some ⟨g,0,none⟩) n cap)(hown:Row w base g n cap xs)
    (ad:Addr)(m c:Nat)(news:List Value)(hx:a.eval x= .slice (some ad) m c)(hl:news.length=m)(hnews:∀j u,news[j]? =some u→w.cell? (ad.add j)=some u)(h1:∀u∈news,u.oneCell'=true)
    (h63:n+m≤maxLen)(hbytes:(n+m)*bytes≤140737488355328)(hbase:base≤w.heap.size)(H:Nat)(hH:w.heap.size=H)
    (h:∀g' cap' w',Row w' base g' (n+m) cap' (xs++news)→w.grownBy w' (some g)→(g'=g∨g'=H)→(∀j u,xs[j]? =some u→w'.cell? ⟨g,j,none⟩=some u)→wpList P ops Q rest (a.put o.dst (.slice (some ⟨g',0,none⟩) (n+m) cap')) w'):wpList P ops Q (o::rest) a w:=
  wpList_plain hgd fun _ hK=>wp_append_row s x t ho base e i z bytes ht hi hz hsize hby hzs g n cap xs hs hown ad m c news hx hl hnews h1 h63 hbytes hbase H hH fun g' cap' w' h2 h3 h4 h5=>hK _ _ (h g' cap' w' h2 h3 h4 h5)
end
theorem results_mid {P:Program}{fn:Func}{p:Tmp}{ty:TypeId}(h:fn.results=#[.cell p ty])(tmps:Array Value)(w:World)(g o:Nat)(cs:List Value)(d:TypeDesc)
    (hp:tmps.getD p undef= .pointer (some ⟨g,o,none⟩))(hc:w.rangeAt g o cs)
    (hu:P.underlying ty=some d)(hd:d.isRow=true)(hi:(P.info? ty).map (·.size)=some cs.length):
    (results fn tmps).run P w= .ok (.agg cs.toArray) w:=by
  have hp':tmps[p]?.getD undef= .pointer (some ⟨g,o,none⟩):=by simpa using hp
  simp [results,h,hp',asAddr,run_loadVar_mid w g o ty cs d hc hu hd hi]
end
section
attribute [local go_sem ↓] Go.wp_at_zero Go.wp_at_succ
end
theorem infoU8w:(prog.info? 5).map (fun i=>(i.zero,i.size,i.bytes))=some (some (.int .u8 0),1,1):=by kernel_rfl
theorem wordS_any (n:Nat)(w:World)(hn:n<18446744073709551616):
    Cr 70 #[int u64 n] w (.string (strOfNums (be8 n))):=by
  obtain⟨i0,hi,hz0,hz1,hz2⟩:=info_parts infoU8w;go_enter func70,ntmps70;go_wp2
  go_loopw [3,4] (fun v i wr=>∃j g cap:Nat,j≤8∧i= .int .i64 (7-(j:Int))∧v= .slice (some ⟨g,0,none⟩) j cap∧Row wr w.heap.size g j cap (((be8 n).take j).map (Value.int .u8))∧Bl w wr) (fun _ i _=>(intOf i+1).toNat)
  case atStart=>exact ⟨0,w.heap.size,0,by omega,rfl,rfl,Row.of_block (n:=0) (cs:=#[]) (heap_alloc_new w _) (Nat.le_refl _) (by simp) (by simp),(Below.refl _ _).alloc (Nat.le_refl _) _⟩
  case round=>
    obtain⟨j,g1,cap1,hj,rfl,rfl,hrow,hbl⟩:=hrel;have hsz1:w.heap.size≤wr.heap.size:=hbl.size;by_cases hlt:j<8
    · have hg0:(0:Int)≤7-(j:Int):=by omega
      go_wp2_with (first
        |(at_builtin;refine wpList_append_row rfl _ _ 58 rfl w.heap.size 5 i0 (.int .u8 0) 1 underlying58 hi hz0 hz1 hz2 rfl g1 j cap1 (((be8 n).take j).map (Value.int .u8)) rfl (hrow.alloc _) ⟨wr.heap.size,0,none⟩ 1 1 [.int .u8 (beAt n j)] rfl rfl (World.news_of_block (cs:=#[.int .u8 (beAt n j)]) (heap_alloc_new wr _)) (by simp [Value.oneCell']) (by unfold maxLen;omega) (by omega) (by simp;omega) _ rfl ?_;intro g3 cap3 w3 hrow3 hgr3 _ _)
        |go_in)
      go_roundw
      case rel=>
        have R1:Row w3 w.heap.size g3 (j+1) cap3 (((be8 n).take (j+1)).map (Value.int .u8)):=by
          rw [be8_take _ j hlt,List.map_append];exact hrow3
        have R2:Bl w w3:=(hbl.alloc hsz1 _).grown hgr3 (by simp;omega) (fun r hr=>by simp at hr;have:=hrow.lo;omega);have R3:Value.int .i64 (7-(j:Int)-1)=Value.int .i64 (7-((j+1:Nat):Int)):=by congr 1;omega
        first
          |exact ⟨j+1,g3,cap3,by omega,R3,rfl,R1,R2⟩
          |((repeat apply Exists.intro);exact⟨⟨j+1,g3,cap3,by omega,R3,rfl,R1,R2⟩,rfl⟩)
      case measure=>simp [intOf];omega
    · obtain rfl:j=8:=by omega
      have hrow':Row wr w.heap.size g1 8 cap1 ((be8 n).map (Value.int .u8)):=hrow;have hcv:=run_convert_bytes_arg (P:=prog) wr 58 5 underlying58 underlying5 g1 0 8 cap1 (be8 n) rfl (fun i h=>by rw [Nat.zero_add];exact hrow'.cell i h) 9 underlying9;go_wp2;go_ret;exact⟨rfl,hbl⟩
end Go.Proofs.Ytnfbfpegagcanaa
