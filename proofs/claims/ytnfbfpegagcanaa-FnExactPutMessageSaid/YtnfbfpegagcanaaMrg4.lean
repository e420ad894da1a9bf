import Derived.Test.YtnfbfpegagcanaaMrg3
set_option linter.unusedVariables false
set_option maxRecDepth 100000
set_option maxHeartbeats 16000000
namespace Go.Proofs.Ytnfbfpegagcanaa
open Go.Proofs.Try Go.RowKit
open Go.Value (int)
open Go.IntKind (u64)
theorem methP (w:World):(method 239 79 (.agg #[]) "loop.example/s02095/impl.value").run prog w= .ok (116,.agg #[]) w:=by kernel_rfl
theorem valP (w:World):
    Calls prog 116 #[.agg #[]] w fun e w'=>e= .returned (int u64 2305843009213693951)∧w'=w.alloc (.cells #[] 79):=by
  go_enter func116,ntmps116;go_wp2;go_ret;exact⟨rfl,rfl⟩
theorem foldP:Array.foldl (fun(cs:Array Value) (x:Value×Nat)=>cs.setIfInBounds x.snd x.fst) #[Value.int IntKind.u64 0] (#[]:Array Value).zipIdx 0 0=#[Value.int .u64 0]:=rfl
theorem redP_one (w:World):
    Calls prog 48 #[int u64 1,.agg #[]] w fun e w'=>e= .returned (.agg #[int u64 1])∧w'=(((w.alloc (.cells #[] 79)).alloc (.cells #[int u64 1] 81)).alloc (.cells #[] 79)).drew:=by
  have hm:=methP;have hf:=foldP;have V:=valP;go_enter func48,ntmps48;go_wp2
  go_region_held3 (fun _=>True) (trivial) ((go_simp;go_at_call 116;refine(V _).mono ?_;rintro e w' ⟨rfl,rfl⟩))
  go_wp2;refine bodyPost_ret (v:= .agg #[int u64 1]) (by simp [results,results48,go_sem]) rfl ⟨rfl,rfl⟩
theorem cellsP:prog.cellsOf 81=1:=by kernel_rfl
theorem byteP:byteOfCell prog prog.depth 81 0=some 0:=by kernel_rfl
theorem partP {W:World}{b:Nat}{cs:Array Value}(hW:W.heap[b]? =some (.cells cs 81)):(partAt ⟨b,0,none⟩ 0 0).run prog W= .ok ⟨b,0,none⟩ W:=by
  have h:(byteOf ⟨b,0,none⟩).run prog W= .ok 0 W:=by
    have hs:W.shape? b=some (81,cs.size):=by simp [World.shape?,hW]
    simp [byteOf,noView,viewAt,shape,program,Sem.run,hs,cellsP,byteP,go_sem]
  simp [partAt,h,go_sem]
theorem timP_any (a b:Nat)(w:World)(ha:a<2305843009213693951)(hb:b<2305843009213693951):
    Cr 46 #[.agg #[int u64 a],.agg #[int u64 b]] w (.agg #[int u64 (a*b%2305843009213693951:Nat)]):=by
  have hme:=methP;have hf:=foldP;have M:=mul64_any a b (by omega) (by omega)
  have D:=fun w=>div_any (a*b/18446744073709551616) (a*b%18446744073709551616) 2305843009213693951 w (by
    rw [Nat.div_lt_iff_lt_mul (by decide)];have:a*b≤2305843009213693950*2305843009213693950:=Nat.mul_le_mul (by omega) (by omega)
    omega) (by decide) (Nat.mod_lt _ (by decide))
  have e:a*b/18446744073709551616*18446744073709551616+a*b%18446744073709551616=a*b:=by omega
  rw [e] at D;clear e;generalize a*b/18446744073709551616=hi at*;generalize a*b%18446744073709551616=lo at*;obtain⟨c,hc⟩:∃c,c=a*b%2305843009213693951:=⟨_,rfl⟩;rw [←hc] at D⊢;clear hc ha hb;obtain⟨X,hX⟩:∃X,X=((w.alloc (Obj.cells #[int u64 (a:Int)] 81)).alloc (Obj.cells #[int u64 (b:Int)] 81)).alloc (Obj.cells #[int u64 0] 81):=⟨_,rfl⟩
  have hX0:X.heap[w.heap.size]? =some (.cells #[int u64 (a:Int)] 81):=by
    rw [hX];exact(Below.heap_alloc _ _ _ (by simp;omega)).trans ((Below.heap_alloc _ _ _ (by simp)).trans (heap_alloc_new w _))
  have hp1:=partP hX0;have hX1:(X.alloc (Obj.cells #[] 79)).heap[w.heap.size]? =some (.cells #[int u64 (a:Int)] 81):=(Below.heap_alloc _ _ _ (Array.getElem?_eq_some_iff.1 hX0).1).trans hX0;have hp2:=partP hX1;have hp3:=partP (W:=(X.alloc (Obj.cells #[] 79)).drew) hX1;rw [hX] at hp1 hp2 hp3;clear hX hX0 hX1;go_enter func46,ntmps46;go_wp2_with fail;refine(M _).mono ?_;rintro e w' ⟨rfl,rfl⟩;go_wp2_with fail;refine(valP _).mono ?_;rintro e w' ⟨rfl,rfl⟩;go_wp2_with fail;refine(D _).mono ?_;rintro e w' ⟨⟨z,rfl⟩,rfl|rfl⟩
  · go_wp2;refine bodyPost_ret (v:= .agg #[int u64 c]) (by simp [results,results46,go_sem]) rfl ⟨rfl,?_⟩;exact((((Below.refl _ _).alloc (Nat.le_refl _) _).alloc (by simp) _).alloc (by simp;omega) _).alloc (by simp;omega) _
  · go_wp2;refine bodyPost_ret (v:= .agg #[int u64 c]) (by simp [results,results46,go_sem]) rfl ⟨rfl,?_⟩;exact(((((Below.refl _ _).alloc (Nat.le_refl _) _).alloc (by simp) _).alloc (by simp;omega) _).alloc (by simp;omega) _).drew
section
open Go.Shelf
attribute [local go_sem] Oper.semAt_some
def Rp (W:World)(t:TypeId)(b y:Nat):Prop:=W.heap[b]? =some (.cells #[int u64 y] t)
theorem Rp.cell {W:World}{t:TypeId}{b y:Nat}(h:Rp W t b y):W.cell? ⟨b,0,none⟩=some (int u64 y):=by unfold Rp at h;simp [World.cell?,h]
theorem Rp.frz {W:World}{t:TypeId}{b y:Nat}(h:Rp W t b y):W.frozen? ⟨b,0,none⟩=false:=by unfold Rp at h;simp [World.frozen?,h]
theorem Rp.lt {W:World}{t:TypeId}{b y:Nat}(h:Rp W t b y):b<W.heap.size:=(Array.getElem?_eq_some_iff.1 h).1
theorem Rp.own {β:Type}(B:Nat)(t:TypeId)(b:Nat)(g:β→Nat):OwnFrom B (fun s W=>Rp W t b (g s)):=fun s W W' row hs hg hr=>by
  refine(hg.block b hs.lt (fun e=> ?_)).trans hs;obtain⟨-,o,ho,hc⟩:=hr b e.symm;rw [show W.heap[b]? =_ from hs] at ho;cases ho;cases hc
theorem Rp.below {W W':World}{t:TypeId}{b y N:Nat}(h:Rp W t b y)(hb:Below N W W')(hl:b<N):Rp W' t b y:=(hb.block b hl).trans h
theorem Rp.new (w:World)(t:TypeId)(y:Nat):Rp (w.alloc (.cells #[int u64 y] t)) t w.heap.size y:=World.alloc_heap_new w _
theorem Rp.alloc {W:World}{t:TypeId}{b y:Nat}(h:Rp W t b y)(o:Obj):Rp (W.alloc o) t b y:=(Below.heap_alloc W o b h.lt).trans h
theorem Rp.drew {W:World}{t:TypeId}{b y:Nat}(h:Rp W t b y):Rp W.drew t b y:=h
theorem Rp.range {W:World}{t:TypeId}{b y:Nat}(h:Rp W t b y):W.rangeAt b 0 [int u64 y]:=fun j v hj=>by
  match j,hj with
  |0,hj=>cases hj;exact h.cell
theorem Rp.at {W:World}{t:TypeId}{b b' y:Nat}(h:Rp W t b y)(e:b=b'):Rp W t b' y:=e▸h
theorem Rp.set {W:World}{t:TypeId}{b y:Nat}(h:Rp W t b y)(y':Nat):Rp (W.setCell ⟨b,0,none⟩ (int u64 y')) t b y':=by
  unfold Rp at*;simp [World.setCell,Array.getElem?_modify,h]
theorem Rp.other {W:World}{t:TypeId}{b y:Nat}(h:Rp W t b y){b':Nat}(hne:b≠b')(v:Value):Rp (W.setCell ⟨b',0,none⟩ v) t b y:=by
  unfold Rp at*;rw [setCell_heap _ _ _ _ _ hne];exact h
theorem set_cell (W:World)(b:Nat)(v:Value){k:Nat}(hne:k≠b):(W.setCell ⟨b,0,none⟩ v).cell? ⟨k,0,none⟩=W.cell? ⟨k,0,none⟩:=
  World.cell?_of_block (setCell_heap _ _ _ _ _ hne)
theorem powP_any (a e : Nat)(w:World)(ha:a<2305843009213693951)(he:e<18446744073709551616):
    Calls prog 75 #[.agg #[int u64 a],int u64 e] w fun r w'=>r= .returned (.agg #[int u64 (a^e%2305843009213693951:Nat)])∧Bl w w':=by
  obtain⟨res,hres⟩:∃res,Hid (res=a^e%2305843009213693951):=⟨_,rfl⟩;rw [←hres.out];have R:=redP_one;have B:=bits_of e;have rA0:Rp ((w.alloc (.cells #[int u64 (a:Int)] 81)).alloc (.cells #[int u64 0] 81)) 81 w.heap.size a:=(Rp.new w _ a).alloc _;have hp1:=partP rA0;refine(callsIn_wide (n:=5)).1 ?_;refine callsIn_of_wp_marks func75 rfl trivial ?_ rfl;simp only [ntmps75,List.size_toArray,List.length_cons,List.length_nil,Nat.reduceAdd,Nat.reduceSub,Array.replicate_succ,Array.replicate_zero,List.push_toArray,List.append_toArray,List.nil_append,List.cons_append]
  gi_wp2_with (first
    |(refine⟨trivial,?_⟩;gi_at_call 48;refine(callsIn_wide.2 (R _)).mono ?_;rintro e w' ⟨rfl,rfl⟩)
    |(refine⟨trivial,?_⟩;gi_at_call 69;refine(callsIn_wide.2 (B _)).mono ?_;rintro e w' ⟨rfl,rfl⟩))
  clear R B hp1 rA0
  obtain⟨W0,hW0⟩:∃W0,(((((((w.alloc (Obj.cells #[Value.int IntKind.u64 (a:Int)] 81)).alloc (Obj.cells #[Value.int IntKind.u64 0] 81)).alloc
                        (Obj.cells #[] 79)).alloc
                    (Obj.cells #[Value.int IntKind.u64 1] 81)).alloc
                (Obj.cells #[] 79)).alloc
            (Obj.cells #[Value.int IntKind.u64 1] 81)).alloc
        (Obj.cells #[Value.int IntKind.u64 (e:Int)] 22)).drew=W0:=⟨_,rfl⟩
  rw [hW0];have hsz:W0.heap.size=w.heap.size+7:=by rw [←hW0];simp
  have hA:Rp W0 81 w.heap.size a:=by rw [←hW0];exact(((((((Rp.new w _ a).alloc _).alloc _).alloc _).alloc _).alloc _).alloc _).drew
  have hR:Rp W0 81 (w.heap.size+1) 0:=by rw [←hW0];exact(((((((Rp.new _ _ 0).alloc _).alloc _).alloc _).alloc _).alloc _).drew).at (by simp)
  have hO:Rp W0 81 (w.heap.size+1+1+1+1+1) 1:=by rw [←hW0];exact(((Rp.new _ _ 1).alloc _).drew).at (by simp)
  have hE:W0.cell? ⟨w.heap.size+1+1+1+1+1+1,0,none⟩=some (int u64 e):=by
    rw [←hW0];exact(cell_new1 _ _ _ (by simp))
  have hB:Bl w W0:=by
    rw [←hW0];exact((((((((Below.refl _ w).alloc (Nat.le_refl _) _).alloc (by simp) _).alloc (by simp;omega) _).alloc (by simp;omega) _).alloc (by simp;omega) _).alloc (by simp;omega) _).alloc (by simp;omega) _).drew
  clear hW0
  refine wpIn_rangeFunc_ownF (F:=Fence.wide) (n:=5) rfl (by omega) (gf:=76) (lb:=#[.pointer (some ⟨w.heap.size+1+1+1+1+1+1,0,none⟩)]) rfl trivial (enters_of func76 (by kernel_rfl) rfl)
    (bit_stops (5-1) (by omega) e (w.heap.size+1+1+1+1+1+1) he W0 hE (by omega)) (fun h k x=>k (h x)) ?hKb (Below.refl _ _) (fun _=>rfl)
    (fun pre W=>(Rp W 81 (w.heap.size+1+1+1+1+1) (a^valB pre%2305843009213693951)∧Rp W 81 w.heap.size a∧Rp W 81 (w.heap.size+1) 0)∧Bl w W)
    (fun _ _ _=>False)
    (OwnFrom.and (OwnFrom.and (Rp.own _ _ _ _) (OwnFrom.and (Rp.own _ _ _ (fun _=>a)) (Rp.own _ _ _ (fun _=>0)))) (ownFrom_below (Nat.le_refl _) (by omega)))
    (fun _ _ _ _ _ hs _ _=>hs)
    ⟨⟨by simpa [valB] using hO,hA,hR⟩,hB⟩
    (fun x=>{tmps:=#[Value.agg #[Value.int IntKind.u64 (a:Int)],Value.int IntKind.u64 (e:Int),
          Value.pointer (some {block:=w.heap.size,off:=0}),undef,
          Value.pointer (some {block:=w.heap.size+1,off:=0}),
          Value.pointer (some {block:=w.heap.size+1+1+1+1+1,off:=0}),.bool x,
          Value.pointer (some {block:=w.heap.size,off:=0}),Value.agg #[],
          Value.agg #[Value.int IntKind.u64 1],Value.int IntKind.u64 (e:Int),
          Value.func (Fn.func 76) #[] #[Value.pointer (some {block:=w.heap.size+1+1+1+1+1+1,off:=0})],.bool x,
          undef,undef,undef,undef,undef,undef,undef,undef],defers:= []}) ?assign ?body ?done ?stop
  case hKb=>
    intro W l o o' hl ho hc _ hcell;have hne:w.heap.size+1+1+1+1+1+1≠l:=by omega
    refine(World.cell?_of_block ?_).trans hcell;exact(grownBy_putObj' W l o').block _ (World.block_lt_of_cell? W _ hcell) (fun e=>hne (Option.some.inj e))
  case assign=>
    intro l x W K hK
    gi_wp2
    exact hK
  case body=>
    rintro l pre x W ⟨⟨rO,rA,rR⟩,rB⟩ _;obtain⟨c,hc⟩:∃c,Hid (c=a^valB pre%2305843009213693951):=⟨_,rfl⟩;rw [←hc.out] at rO;have hcm:c<2305843009213693951:=by rw [hc.out];exact Nat.mod_lt _ (by omega)
    have T1:=fun w=>timP_any c c w hcm hcm
    have hdm:c*c%2305843009213693951<2305843009213693951:=Nat.mod_lt _ (by omega);have T2:=fun w=>timP_any (c*c%2305843009213693951) a w hdm ha
    obtain⟨d,hd⟩:∃d,Hid (d=c*c%2305843009213693951):=⟨_,rfl⟩;rw [←hd.out] at T1 T2;obtain⟨d2,hd2⟩:∃d2,Hid (d2=d*a%2305843009213693951):=⟨_,rfl⟩;rw [←hd2.out] at T2;have o0:=rO.cell;clear hdm hcm ha he;cases x
    · gi_wp2_with fail
      refine⟨trivial,?_⟩
      gi_at_call 46
      refine(CallsIn.inRound l (callsIn_wide.2 (T1 _))).mono ?_;rintro e' W1 ⟨rfl,b1⟩;have rO1:=rO.below b1 rO.lt;have f0:=rO1.frz;have p0:=rO1.cell
      gi_wp2
      have ev:valB (pre++ [false])=2*valB pre:=by rw [valB_snoc];rfl
      refine⟨(keeps_below b1).trans (KeepsOthers.setCell _ _ _),fun hk=> ?_,⟨⟨?_,?_,?_⟩,?_⟩⟩
      · exact(set_cell W1 (w.heap.size+1+1+1+1+1) _ (by omega)).trans ((b1.cell (p:=⟨w.heap.size+1+1+1+1+1+1,0,none⟩) (World.block_lt_of_cell? W _ hk)).trans hk)
      · rw [ev,←pow_step0 a 2305843009213693951 c d _ hc.out hd.out];exact rO1.set d
      · exact(rA.below b1 rA.lt).other (by omega) _
      · exact(rR.below b1 rR.lt).other (by omega) _
      · exact(rB.tr b1).setCell (p:=⟨w.heap.size+1+1+1+1+1,0,none⟩) (by simp;omega) _
    · gi_wp2_with fail
      refine⟨trivial,?_⟩
      gi_at_call 46
      refine(CallsIn.inRound l (callsIn_wide.2 (T1 _))).mono ?_;rintro e' W1 ⟨rfl,b1⟩;have rO1:=rO.below b1 rO.lt;have f0:=rO1.frz;have p0:=rO1.cell;have rO2:=rO1.set d;have rA2:Rp (W1.setCell ⟨w.heap.size+1+1+1+1+1,0,none⟩ (int u64 d)) _ _ _:=(rA.below b1 rA.lt).other (by omega) _;have rR2:Rp (W1.setCell ⟨w.heap.size+1+1+1+1+1,0,none⟩ (int u64 d)) _ _ _:=(rR.below b1 rR.lt).other (by omega) _;have rB2:=(rB.tr b1).setCell (p:=⟨w.heap.size+1+1+1+1+1,0,none⟩) (by simp;omega) (int u64 d);have k2:=(keeps_below b1).trans (KeepsOthers.setCell W1 ⟨w.heap.size+1+1+1+1+1,0,none⟩ (int u64 d))
      have c2:W.cell? ⟨w.heap.size+1+1+1+1+1+1,0,none⟩=some (int u64 e)→(W1.setCell ⟨w.heap.size+1+1+1+1+1,0,none⟩ (int u64 d)).cell? ⟨w.heap.size+1+1+1+1+1+1,0,none⟩=some (int u64 e):=fun hk=>
        (set_cell W1 (w.heap.size+1+1+1+1+1) _ (by omega)).trans ((b1.cell (p:=⟨w.heap.size+1+1+1+1+1+1,0,none⟩) (World.block_lt_of_cell? W _ hk)).trans hk)
      have q1:=rO2.cell;have q3:=rA2.cell
      gi_wp2_with fail
      refine⟨trivial,?_⟩
      gi_at_call 46
      refine(CallsIn.inRound l (callsIn_wide.2 (T2 (W1.setCell ⟨w.heap.size+1+1+1+1+1,0,none⟩ (int u64 d))))).mono ?_;rintro e' W3 ⟨rfl,b3⟩;clear q1 q3 f0 p0 o0;generalize W1.setCell ⟨w.heap.size+1+1+1+1+1,0,none⟩ (int u64 d)=W2 at*;have rO3:=rO2.below b3 rO2.lt;have f0:=rO3.frz;have p0:=rO3.cell
      gi_wp2
      have ev:valB (pre++ [true])=2*valB pre+1:=by rw [valB_snoc];rfl
      refine⟨k2.trans ((keeps_below b3).trans (KeepsOthers.setCell _ _ _)),fun hk=> ?_,⟨⟨?_,?_,?_⟩,?_⟩⟩
      · exact(set_cell W3 (w.heap.size+1+1+1+1+1) _ (by omega)).trans ((b3.cell (p:=⟨w.heap.size+1+1+1+1+1+1,0,none⟩) (World.block_lt_of_cell? W2 _ (c2 hk))).trans (c2 hk))
      · rw [ev,←pow_step1 a 2305843009213693951 c d d2 _ hc.out hd.out hd2.out];exact rO3.set d2
      · exact(rA2.below b3 rA2.lt).other (by omega) _
      · exact(rR2.below b3 rR2.lt).other (by omega) _
      · exact(rB2.tr b3).setCell (p:=⟨w.heap.size+1+1+1+1+1,0,none⟩) (by simp;omega) _
  case done=>
    rintro D xs W hD rfl ⟨⟨rO,rA,rR⟩,rB⟩ hK;rw [valB_all e (by omega),←hres.out] at rO;have o0:=rO.cell;have r0:=rR.cell;have f0:=rR.frz
    gi_wp2
    refine⟨by simp,.inl ⟨_,_,rfl,run_takeDeferred ((KeepsOthers.setCell W ⟨w.heap.size+1,0,none⟩ (int u64 res)).same D _ hK rfl),?_⟩⟩;have rF:=rR.set res;refine⟨.agg #[int u64 res],?_,rfl,?_⟩
    · have hne:D≠w.heap.size+1:=by omega
      have rG:Rp ((W.setCell ⟨w.heap.size+1,0,none⟩ (int u64 res)).putObj D (Obj.deferred none)) 81 (w.heap.size+1) res:=
        ((grownBy_putObj' _ D (Obj.deferred none)).block _ rF.lt (fun e=>hne (Option.some.inj e).symm)).trans rF
      exact results_mid (fn:=Try.f75) (p:=4) (ty:=81) results75 _ _ (w.heap.size+1) 0 [int u64 res] _ rfl rG.range underlying81 rfl (by kernel_rfl)
    · have hB3:=rB.setCell (p:=⟨w.heap.size+1,0,none⟩) (by simp) (int u64 res);exact hB3.grown (grownBy_putObj' _ D (Obj.deferred none)) hB3.size (fun k e=>by cases e;omega)
  case stop=>
    rintro D c pre W _ _ h _;exact h.elim
end
theorem keepC {w1 w2:World}{p:Addr}{v:Value}(h:w1.cell? p=some v)(b:Bl w1 w2):w2.cell? p=some v:=by
  by_cases hl:p.block<w1.heap.size
  · rw [←h];unfold World.cell?;rw [b.block _ hl]
  · exfalso;have:w1.heap[p.block]? =none:=Array.getElem?_eq_none (by omega);simp [World.cell?,this] at h
theorem keepS {w1:World}{p:Addr}{v u:Value}{b i:Nat}(h:w1.cell? p=some v)(hne:p.block≠b):(w1.setCell ⟨b,i,none⟩ u).cell? p=some v:=by
  rw [←h];unfold World.cell?;simp [World.setCell,Array.getElem?_modify,Ne.symm hne]
theorem keepB {n:Nat}{w0 w1 w2:World}(h:Below n w0 w1)(hn:n≤w1.heap.size)(b:Bl w1 w2):Below n w0 w2:=h.trans (b.mono hn)
def R1 (W:World)(b:Nat)(y:Int):Prop:=W.heap[b]? =some (.cells #[int u64 y] 81)
section
variable {W W':World}{b:Nat}{y:Int}
theorem R1.cell (h:R1 W b y):W.cell? ⟨b,0,none⟩=some (int u64 y):=by unfold R1 at h;simp [World.cell?,h]
theorem R1.frz (h:R1 W b y):W.frozen? ⟨b,0,none⟩=false:=by unfold R1 at h;simp [World.frozen?,h]
theorem R1.lt (h:R1 W b y):b<W.heap.size:=(Array.getElem?_eq_some_iff.1 h).1
theorem R1.below {N:Nat}(h:R1 W b y)(hb:Below N W W')(hl:b<N):R1 W' b y:=(hb.block b hl).trans h
theorem R1.keep (h:R1 W b y)(hb:Bl W W'):R1 W' b y:=h.below hb h.lt
theorem R1.new (w:World)(y:Int):R1 (w.alloc (.cells #[int u64 y] 81)) w.heap.size y:=heap_alloc_new w _
theorem R1.alloc (h:R1 W b y)(o:Obj):R1 (W.alloc o) b y:=(Below.heap_alloc W o b h.lt).trans h
theorem R1.drew (h:R1 W b y):R1 W.drew b y:=h
theorem R1.range (h:R1 W b y):W.rangeAt b 0 [int u64 y]:=fun j v hj=>by
  match j,hj with
  |0,hj=>cases hj;exact h.cell
theorem R1.at {b':Nat}(h:R1 W b y)(e:b=b'):R1 W b' y:=e▸h
theorem R1.set (h:R1 W b y)(y':Int):R1 (W.setCell ⟨b,0,none⟩ (int u64 y')) b y':=by
  unfold R1 at*;simp [World.setCell,Array.getElem?_modify,h]
theorem R1.other (h:R1 W b y){b':Nat}(hne:b≠b')(i:Nat)(v:Value):R1 (W.setCell ⟨b',i,none⟩ v) b y:=by
  unfold R1 at*;rw [←h];simp [World.setCell,Array.getElem?_modify,Ne.symm hne]
theorem num_res {fn:Func}{p:Tmp}(h:fn.results=#[.cell p 81])(tmps:Array Value)(hp:tmps.getD p undef= .pointer (some ⟨b,0,none⟩))(hc:R1 W b y):
    (results fn tmps).run prog W= .ok (.agg #[int u64 y]) W:=
  results_mid h tmps W b 0 [int u64 y] _ hp hc.range underlying81 rfl (by kernel_rfl)
end
theorem mnP_lt (a b d c:Int)(w:World)(h:a<b)(hd:IntKind.u64.wrap (a-b)=d)(hc:IntKind.u64.wrap (d+2305843009213693951)=c):
    Cr 64 #[.agg #[int u64 a],.agg #[int u64 b]] w (.agg #[int u64 c]):=by
  have hme:=methP;have hf:=foldP;obtain⟨X,hX⟩:∃X,X=((w.alloc (Obj.cells #[int u64 a] 81)).alloc (Obj.cells #[int u64 b] 81)).alloc (Obj.cells #[int u64 0] 81):=⟨_,rfl⟩
  have hX0:X.heap[w.heap.size]? =some (.cells #[int u64 a] 81):=by
    rw [hX];exact(Below.heap_alloc _ _ _ (by simp;omega)).trans ((Below.heap_alloc _ _ _ (by simp)).trans (heap_alloc_new w _))
  have hp1:=partP hX0;have hX1:(X.alloc (Obj.cells #[] 79)).heap[w.heap.size]? =some (.cells #[int u64 a] 81):=(Below.heap_alloc _ _ _ (Array.getElem?_eq_some_iff.1 hX0).1).trans hX0;have hp2:=partP hX1;rw [hX] at hp1 hp2;clear hX hX0 hX1;go_enter func64,ntmps64;go_wp2_with fail;refine(valP _).mono ?_;rintro e w' ⟨rfl,rfl⟩;go_wp2;refine bodyPost_ret (v:= .agg #[int u64 c]) (by simp [results,results64,go_sem]) rfl ⟨rfl,?_⟩;exact((((Below.refl _ _).alloc (Nat.le_refl _) _).alloc (by simp) _).alloc (by simp;omega) _).alloc (by simp;omega) _
theorem mnP_ge (a b d:Int)(w:World)(h:b≤a)(hd:IntKind.u64.wrap (a-b)=d):
    Cr 64 #[.agg #[int u64 a],.agg #[int u64 b]] w (.agg #[int u64 d]):=by
  have hme:=methP;have hf:=foldP;have hlt: ¬ a<b:=by omega
  clear h;obtain⟨X,hX⟩:∃X,X=((w.alloc (Obj.cells #[int u64 a] 81)).alloc (Obj.cells #[int u64 b] 81)).alloc (Obj.cells #[int u64 0] 81):=⟨_,rfl⟩
  have hX0:X.heap[w.heap.size]? =some (.cells #[int u64 a] 81):=by
    rw [hX];exact(Below.heap_alloc _ _ _ (by simp;omega)).trans ((Below.heap_alloc _ _ _ (by simp)).trans (heap_alloc_new w _))
  have hp1:=partP hX0;rw [hX] at hp1;clear hX hX0;go_enter func64,ntmps64;go_wp2;refine bodyPost_ret (v:= .agg #[int u64 d]) (by simp [results,results64,go_sem]) rfl ⟨rfl,?_⟩;exact(((Below.refl _ _).alloc (Nat.le_refl _) _).alloc (by simp) _).alloc (by simp;omega) _
theorem mnP_any (a b c:Int)(w:World)(ha0:0≤a)(ha:a<2305843009213693951)(hb0:0≤b)(hb:b<2305843009213693951)(hc:c=if a<b then a-b+2305843009213693951 else a-b):
    Cr 64 #[.agg #[int u64 a],.agg #[int u64 b]] w (.agg #[int u64 c]):=by
  by_cases h:a<b
  · rw [if_pos h] at hc;exact mnP_lt a b (a-b+18446744073709551616) c w h (by rw [IntKind.wrap_u64];omega) (by rw [IntKind.wrap_u64];omega)
  · rw [if_neg h] at hc;exact mnP_ge a b c w (by omega) (by rw [IntKind.wrap_u64];omega)
theorem ngP_of (a c:Int)(w:World)
    (M:Cc 64 #[.agg #[int u64 0],.agg #[int u64 a]] (.agg #[int u64 c])):
    Cr 49 #[.agg #[int u64 a]] w (.agg #[int u64 c]):=by
  have hf:=foldP;obtain⟨X,hX⟩:∃X,X=(w.alloc (Obj.cells #[int u64 a] 81)).alloc (Obj.cells #[int u64 0] 81):=⟨_,rfl⟩
  have hX0:X.heap[w.heap.size]? =some (.cells #[int u64 a] 81):=by
    rw [hX];exact(Below.heap_alloc _ _ _ (by simp)).trans (heap_alloc_new w _)
  have hp1:=partP hX0;have hr:R1 X (w.heap.size+1) 0:=by rw [hX];exact(R1.new _ 0).at (by simp)
  have hbX:Bl w X:=by rw [hX];exact((Below.refl _ w).alloc (Nat.le_refl _) _).alloc (by simp) _
  rw [hX] at hp1 hr hbX;clear hX hX0;go_enter func49,ntmps49;go_wp2_with fail;refine(M _).mono ?_;rintro e w' ⟨rfl,hb⟩;have hr1:=hr.keep hb;have cc:=hr1.cell;have ff:=hr1.frz;have hb2:=keepB hbX (by simp;omega) hb;clear hb hbX hr hp1;go_wp2;exact bodyPost_ret (v:= .agg #[int u64 c]) (num_res (fn:=Try.f49) (p:=2) results49 _ rfl (hr1.set c)) rfl ⟨rfl,hb2.setCell (p:=⟨w.heap.size+1,0,none⟩) (by simp) _⟩
theorem plP_of (a b d c:Int)(w:World)
    (N:Cc 49 #[.agg #[int u64 b]] (.agg #[int u64 d]))
    (M:Cc 64 #[.agg #[int u64 a],.agg #[int u64 d]] (.agg #[int u64 c])):
    Cr 65 #[.agg #[int u64 a],.agg #[int u64 b]] w (.agg #[int u64 c]):=by
  obtain⟨X,hX⟩:∃X,X=(((w.alloc (Obj.cells #[int u64 a] 81)).alloc (Obj.cells #[int u64 b] 81)).alloc (Obj.cells #[int u64 0] 81)).drew:=⟨_,rfl⟩;have hr:R1 X (w.heap.size+1+1) 0:=by rw [hX];exact((R1.new _ 0).drew).at (by simp)
  have hbX:Bl w X:=by rw [hX];exact((((Below.refl _ w).alloc (Nat.le_refl _) _).alloc (by simp) _).alloc (by simp;omega) _).drew
  have hl:w.heap.size≤X.heap.size:=hbX.size;rw [hX] at hr hbX hl;clear hX;go_enter func65,ntmps65;go_wp2
  go_region_held3 (fun w'=>w'.cell? ⟨w.heap.size,0,none⟩=some (int u64 a)∧w'.cell? ⟨w.heap.size+1,0,none⟩=some (int u64 b)) (first|exact ⟨keepC (keepC (by simp [go_sem]) b1) b2,keepC (keepC (by simp [go_sem]) b1) b2⟩|exact ⟨keepC (by simp [go_sem]) b1,keepC (by simp [go_sem]) b1⟩|exact ⟨keepS (keepC (keepC (by simp [go_sem]) b1) b2) (by simp;omega),keepS (keepC (keepC (by simp [go_sem]) b1) b2) (by simp)⟩|go_keep) (first
    |(go_at_call 49;refine(N _).mono ?_;rintro e w1 ⟨rfl,b1⟩)
    |(go_at_call 64;refine(M _).mono ?_;rintro e w2 ⟨rfl,b2⟩;have hr2:=(hr.keep b1).keep b2;have cc:=hr2.cell;have ff:=hr2.frz))
  go_wp2;have hb2:=keepB (keepB hbX hl b1) (Nat.le_trans hl b1.size) b2;exact bodyPost_ret (v:= .agg #[int u64 c]) (num_res (fn:=Try.f65) (p:=4) results65 _ rfl (hr2.set c)) rfl ⟨rfl,hb2.setCell (p:=⟨w.heap.size+1+1,0,none⟩) (by simp;omega) _⟩
theorem exP_less (x:Int)(w:World)(h1:x<2305843009213693951):
    Cr 45 #[int u64 x,.agg #[]] w (.tuple #[.agg #[int u64 x],.bool true]):=by
  have hm:=methP;have hbd:=foldP;go_enter func45,ntmps45;go_wp2_with fail;refine(valP _).mono ?_;rintro e w' ⟨rfl,rfl⟩;go_wp2;refine bodyPost_ret (v:= .tuple #[.agg #[int u64 x],.bool true]) (by simp [results,results45,go_sem]) rfl ⟨rfl,?_⟩;exact(((Below.refl _ w).alloc (Nat.le_refl _) _).alloc (by simp) _).alloc (by simp;omega) _
theorem exP_more (x:Int)(w:World)(h1:2305843009213693951≤x):
    Cr 45 #[int u64 x,.agg #[]] w (.tuple #[.agg #[int u64 0],.bool false]):=by
  have hm:=methP;go_enter func45,ntmps45;go_wp2_with fail;refine(valP _).mono ?_;rintro e w' ⟨rfl,rfl⟩;go_wp2;refine bodyPost_ret (v:= .tuple #[.agg #[int u64 0],.bool false]) (by simp [results,results45,go_sem]) rfl ⟨rfl,?_⟩;exact(((Below.refl _ w).alloc (Nat.le_refl _) _).alloc (by simp) _).alloc (by simp;omega) _
end Go.Proofs.Ytnfbfpegagcanaa
