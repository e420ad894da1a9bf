import Derived.Test.YtjhbckngdclleaaGreatDoorMrg19
set_option linter.unusedVariables false
set_option maxRecDepth 100000
set_option maxHeartbeats 16000000
namespace Go.Proofs.YtjhbckngdclleaaGreatDoor
open Go.Proofs.Tryz Go.RowKit
open Go.Value (int)
open Go.IntKind (u64)
section
open Go.Shelf
attribute [local go_sem] Oper.semAt_some
def valB (l:List Bool):Nat:=l.foldl (fun v b=>2*v+b.toNat) 0
theorem valB_snoc (l:List Bool)(b:Bool):valB (l++ [b])=2*valB l+b.toNat:=by simp [valB]
theorem valB_bits (e L:Nat):∀j,j≤L→e/2^L=0→valB (bitsF e L j)=e/2^(L-j)
  |0,_,h=>by simp [bitsF,valB,h]
  | j+1,hj,h=>by
    rw [bitsF,valB_snoc,valB_bits e L j (by omega) h];have e1:L-j=L-(j+1)+1:=by omega
    rw [e1];generalize L-(j+1)=i;have:e/2^(i+1)=e/2^i/2:=by rw [Nat.pow_succ,Nat.div_div_eq_div_mul]
    rw [this];generalize e/2^i=z;by_cases hz:z%2=1
    · simp [hz];omega
    · simp [hz];omega
theorem valB_all (e:Nat)(he:e<2^64):valB (bitsF e (Lib.bitLen e) (Lib.bitLen e))=e:=by
  have h:e<2^Lib.bitLen e:=len_up 64 e he;rw [valB_bits e _ _ (Nat.le_refl _) (Nat.div_eq_of_lt h),Nat.sub_self,Nat.pow_zero,Nat.div_one]
theorem cell_new1 (w:World)(v:Value)(t:TypeId){b:Nat}(e:w.heap.size=b):(w.alloc (.cells #[v] t)).cell? ⟨b,0,none⟩=some v:=by subst e;rw [World.cell?,World.alloc_heap_new w _];rfl
theorem setCell_heap (W:World)(b i:Nat)(v:Value)(k:Nat)(h:k≠b):(W.setCell ⟨b,i,none⟩ v).heap[k]? =W.heap[k]? :=by
  simp [World.setCell,Array.getElem?_modify,Ne.symm h]
theorem keeps_below {W W':World}(h:Bl W W'):KeepsOthers W W':=⟨h.size,fun k o hk _=>(h.block k (Array.getElem?_eq_some_iff.1 hk).1).trans hk⟩
theorem pow_step0 (a m c d v:Nat)(hc:c=a^v%m)(hd:d=c*c%m):d=a^(2*v)%m:=by
  rw [hd,hc,Nat.two_mul,Nat.pow_add,←Nat.mul_mod]
theorem pow_step1 (a m c d d2 v:Nat)(hc:c=a^v%m)(hd:d=c*c%m)(hd2:d2=d*a%m):d2=a^(2*v+1)%m:=by
  rw [hd2,pow_step0 a m c d v hc hd,Nat.mod_mul_mod,Nat.pow_succ]
end
section
open Go.Shelf
attribute [local go_sem] Oper.semAt_some
def Rp (W:World)(t:TypeId)(b y:Nat):Prop:=W.heap[b]? =some (.cells #[int u64 y] t)
theorem Rp.cell {W:World}{t:TypeId}{b y:Nat}(h:Rp W t b y):W.cell? ⟨b,0,none⟩=some (int u64 y):=by unfold Rp at h;simp [World.cell?,h]
theorem Rp.frz {W:World}{t:TypeId}{b y:Nat}(h:Rp W t b y):W.frozen? ⟨b,0,none⟩=false:=by unfold Rp at h;simp [World.frozen?,h]
theorem Rp.lt {W:World}{t:TypeId}{b y:Nat}(h:Rp W t b y):b<W.heap.size:=(Array.getElem?_eq_some_iff.1 h).1
theorem Rp.own {β:Type}(B:Nat)(t:TypeId)(b:Nat)(g:β→Nat):OwnFrom B (fun s W=>Rp W t b (g s)):=fun s W W' row hs hg hr=>by
  refine(hg.block b hs.lt (fun e=> ?_)).trans hs;obtain⟨-,o,ho,hc⟩:=hr b e.symm;rw [show W.heap[b]? =_ from hs] at ho;cases ho;cases hc
theorem Rp.below {W W':World}{t:TypeId}{b y N:Nat}(h:Rp W t b y)(hb:Below N W W')(hl:b<N):Rp W' t b y:=(hb.block b hl).trans h
theorem Rp.new (w:World)(t:TypeId)(y:Nat):Rp (w.alloc (.cells #[int u64 y] t)) t w.heap.size y:=World.alloc_heap_new w _
theorem Rp.alloc {W:World}{t:TypeId}{b y:Nat}(h:Rp W t b y)(o:Obj):Rp (W.alloc o) t b y:=(Below.heap_alloc W o b h.lt).trans h
theorem Rp.drew {W:World}{t:TypeId}{b y:Nat}(h:Rp W t b y):Rp W.drew t b y:=h
theorem Rp.range {W:World}{t:TypeId}{b y:Nat}(h:Rp W t b y):W.rangeAt b 0 [int u64 y]:=fun j v hj=>by
  match j,hj with
  |0,hj=>cases hj;exact h.cell
theorem Rp.at {W:World}{t:TypeId}{b b' y:Nat}(h:Rp W t b y)(e:b=b'):Rp W t b' y:=e▸h
theorem Rp.set {W:World}{t:TypeId}{b y:Nat}(h:Rp W t b y)(y':Nat):Rp (W.setCell ⟨b,0,none⟩ (int u64 y')) t b y':=by
  unfold Rp at*;simp [World.setCell,Array.getElem?_modify,h]
theorem Rp.other {W:World}{t:TypeId}{b y:Nat}(h:Rp W t b y){b':Nat}(hne:b≠b')(v:Value):Rp (W.setCell ⟨b',0,none⟩ v) t b y:=by
  unfold Rp at*;rw [setCell_heap _ _ _ _ _ hne];exact h
theorem set_cell (W:World)(b:Nat)(v:Value){k:Nat}(hne:k≠b):(W.setCell ⟨b,0,none⟩ v).cell? ⟨k,0,none⟩=W.cell? ⟨k,0,none⟩:=
  World.cell?_of_block (setCell_heap _ _ _ _ _ hne)
theorem powP_any (a e : Nat)(w:World)(ha:a<2305843009213693951)(he:e<18446744073709551616):
    Calls prog 203 #[.agg #[int u64 a],int u64 e] w fun r w'=>r= .returned (.agg #[int u64 (a^e%2305843009213693951:Nat)])∧Bl w w':=by
  obtain⟨res,hres⟩:∃res,Hid (res=a^e%2305843009213693951):=⟨_,rfl⟩;rw [←hres.out];have R:=redP_one;have B:=bits_of e;have rA0:Rp ((w.alloc (.cells #[int u64 (a:Int)] 167)).alloc (.cells #[int u64 0] 167)) 167 w.heap.size a:=(Rp.new w _ a).alloc _;have hp1:=partP rA0;refine(callsIn_wide (n:=5)).1 ?_;refine callsIn_of_wp_marks func203 rfl trivial ?_ rfl;simp only [ntmps203,List.size_toArray,List.length_cons,List.length_nil,Nat.reduceAdd,Nat.reduceSub,Array.replicate_succ,Array.replicate_zero,List.push_toArray,List.append_toArray,List.nil_append,List.cons_append]
  gi_wp2_with (first
    |(refine⟨trivial,?_⟩;gi_at_call 167;refine(callsIn_wide.2 (R _)).mono ?_;rintro e w' ⟨rfl,rfl⟩)
    |(refine⟨trivial,?_⟩;gi_at_call 169;refine(callsIn_wide.2 (B _)).mono ?_;rintro e w' ⟨rfl,rfl⟩))
  clear R B hp1 rA0
  obtain⟨W0,hW0⟩:∃W0,(((((((w.alloc (Obj.cells #[Value.int IntKind.u64 (a:Int)] 167)).alloc (Obj.cells #[Value.int IntKind.u64 0] 167)).alloc
                        (Obj.cells #[] 165)).alloc
                    (Obj.cells #[Value.int IntKind.u64 1] 167)).alloc
                (Obj.cells #[] 165)).alloc
            (Obj.cells #[Value.int IntKind.u64 1] 167)).alloc
        (Obj.cells #[Value.int IntKind.u64 (e:Int)] 22)).drew=W0:=⟨_,rfl⟩
  rw [hW0];have hsz:W0.heap.size=w.heap.size+7:=by rw [←hW0];simp
  have hA:Rp W0 167 w.heap.size a:=by rw [←hW0];exact(((((((Rp.new w _ a).alloc _).alloc _).alloc _).alloc _).alloc _).alloc _).drew
  have hR:Rp W0 167 (w.heap.size+1) 0:=by rw [←hW0];exact(((((((Rp.new _ _ 0).alloc _).alloc _).alloc _).alloc _).alloc _).drew).at (by simp)
  have hO:Rp W0 167 (w.heap.size+1+1+1+1+1) 1:=by rw [←hW0];exact(((Rp.new _ _ 1).alloc _).drew).at (by simp)
  have hE:W0.cell? ⟨w.heap.size+1+1+1+1+1+1,0,none⟩=some (int u64 e):=by
    rw [←hW0];exact(cell_new1 _ _ _ (by simp))
  have hB:Bl w W0:=by
    rw [←hW0];exact((((((((Below.refl _ w).alloc (Nat.le_refl _) _).alloc (by simp) _).alloc (by simp;omega) _).alloc (by simp;omega) _).alloc (by simp;omega) _).alloc (by simp;omega) _).alloc (by simp;omega) _).drew
  clear hW0
  refine wpIn_rangeFunc_ownF (F:=Fence.wide) (n:=5) rfl (by omega) (gf:=200) (lb:=#[.pointer (some ⟨w.heap.size+1+1+1+1+1+1,0,none⟩)]) rfl trivial (enters_of func200 (by kernel_rfl) rfl)
    (bit_stops (5-1) (by omega) e (w.heap.size+1+1+1+1+1+1) he W0 hE (by omega)) (fun h k x=>k (h x)) ?hKb (Below.refl _ _) (fun _=>rfl)
    (fun pre W=>(Rp W 167 (w.heap.size+1+1+1+1+1) (a^valB pre%2305843009213693951)∧Rp W 167 w.heap.size a∧Rp W 167 (w.heap.size+1) 0)∧Bl w W)
    (fun _ _ _=>False)
    (OwnFrom.and (OwnFrom.and (Rp.own _ _ _ _) (OwnFrom.and (Rp.own _ _ _ (fun _=>a)) (Rp.own _ _ _ (fun _=>0)))) (ownFrom_below (Nat.le_refl _) (by omega)))
    (fun _ _ _ _ _ hs _ _=>hs)
    ⟨⟨by simpa [valB] using hO,hA,hR⟩,hB⟩
    (fun x=>{tmps:=#[Value.agg #[Value.int IntKind.u64 (a:Int)],Value.int IntKind.u64 (e:Int),
          Value.pointer (some {block:=w.heap.size,off:=0}),undef,
          Value.pointer (some {block:=w.heap.size+1,off:=0}),
          Value.pointer (some {block:=w.heap.size+1+1+1+1+1,off:=0}),.bool x,
          Value.pointer (some {block:=w.heap.size,off:=0}),Value.agg #[],
          Value.agg #[Value.int IntKind.u64 1],Value.int IntKind.u64 (e:Int),
          Value.func (Fn.func 200) #[] #[Value.pointer (some {block:=w.heap.size+1+1+1+1+1+1,off:=0})],.bool x,
          undef,undef,undef,undef,undef,undef,undef,undef],defers:= []}) ?assign ?body ?done ?stop
  case hKb=>
    intro W l o o' hl ho hc _ hcell;have hne:w.heap.size+1+1+1+1+1+1≠l:=by omega
    refine(World.cell?_of_block ?_).trans hcell;exact(grownBy_putObj' W l o').block _ (World.block_lt_of_cell? W _ hcell) (fun e=>hne (Option.some.inj e))
  case assign=>
    intro l x W K hK
    gi_wp2
    exact hK
  case body=>
    rintro l pre x W ⟨⟨rO,rA,rR⟩,rB⟩ _;obtain⟨c,hc⟩:∃c,Hid (c=a^valB pre%2305843009213693951):=⟨_,rfl⟩;rw [←hc.out] at rO;have hcm:c<2305843009213693951:=by rw [hc.out];exact Nat.mod_lt _ (by omega)
    have T1:=fun w=>timP_any c c w hcm hcm
    have hdm:c*c%2305843009213693951<2305843009213693951:=Nat.mod_lt _ (by omega);have T2:=fun w=>timP_any (c*c%2305843009213693951) a w hdm ha
    obtain⟨d,hd⟩:∃d,Hid (d=c*c%2305843009213693951):=⟨_,rfl⟩;rw [←hd.out] at T1 T2;obtain⟨d2,hd2⟩:∃d2,Hid (d2=d*a%2305843009213693951):=⟨_,rfl⟩;rw [←hd2.out] at T2;have o0:=rO.cell;clear hdm hcm ha he;cases x
    · gi_wp2_with fail
      refine⟨trivial,?_⟩
      gi_at_call 116
      refine(CallsIn.inRound l (callsIn_wide.2 (T1 _))).mono ?_;rintro e' W1 ⟨rfl,b1⟩;have rO1:=rO.below b1 rO.lt;have f0:=rO1.frz;have p0:=rO1.cell
      gi_wp2
      have ev:valB (pre++ [false])=2*valB pre:=by rw [valB_snoc];rfl
      refine⟨(keeps_below b1).trans (KeepsOthers.setCell _ _ _),fun hk=> ?_,⟨⟨?_,?_,?_⟩,?_⟩⟩
      · exact(set_cell W1 (w.heap.size+1+1+1+1+1) _ (by omega)).trans ((b1.cell (p:=⟨w.heap.size+1+1+1+1+1+1,0,none⟩) (World.block_lt_of_cell? W _ hk)).trans hk)
      · rw [ev,←pow_step0 a 2305843009213693951 c d _ hc.out hd.out];exact rO1.set d
      · exact(rA.below b1 rA.lt).other (by omega) _
      · exact(rR.below b1 rR.lt).other (by omega) _
      · exact(rB.tr b1).setCell (p:=⟨w.heap.size+1+1+1+1+1,0,none⟩) (by simp;omega) _
    · gi_wp2_with fail
      refine⟨trivial,?_⟩
      gi_at_call 116
      refine(CallsIn.inRound l (callsIn_wide.2 (T1 _))).mono ?_;rintro e' W1 ⟨rfl,b1⟩;have rO1:=rO.below b1 rO.lt;have f0:=rO1.frz;have p0:=rO1.cell;have rO2:=rO1.set d;have rA2:Rp (W1.setCell ⟨w.heap.size+1+1+1+1+1,0,none⟩ (int u64 d)) _ _ _:=(rA.below b1 rA.lt).other (by omega) _;have rR2:Rp (W1.setCell ⟨w.heap.size+1+1+1+1+1,0,none⟩ (int u64 d)) _ _ _:=(rR.below b1 rR.lt).other (by omega) _;have rB2:=(rB.tr b1).setCell (p:=⟨w.heap.size+1+1+1+1+1,0,none⟩) (by simp;omega) (int u64 d);have k2:=(keeps_below b1).trans (KeepsOthers.setCell W1 ⟨w.heap.size+1+1+1+1+1,0,none⟩ (int u64 d))
      have c2:W.cell? ⟨w.heap.size+1+1+1+1+1+1,0,none⟩=some (int u64 e)→(W1.setCell ⟨w.heap.size+1+1+1+1+1,0,none⟩ (int u64 d)).cell? ⟨w.heap.size+1+1+1+1+1+1,0,none⟩=some (int u64 e):=fun hk=>
        (set_cell W1 (w.heap.size+1+1+1+1+1) _ (by omega)).trans ((b1.cell (p:=⟨w.heap.size+1+1+1+1+1+1,0,none⟩) (World.block_lt_of_cell? W _ hk)).trans hk)
      have q1:=rO2.cell;have q3:=rA2.cell
      gi_wp2_with fail
      refine⟨trivial,?_⟩
      gi_at_call 116
      refine(CallsIn.inRound l (callsIn_wide.2 (T2 (W1.setCell ⟨w.heap.size+1+1+1+1+1,0,none⟩ (int u64 d))))).mono ?_;rintro e' W3 ⟨rfl,b3⟩;clear q1 q3 f0 p0 o0;generalize W1.setCell ⟨w.heap.size+1+1+1+1+1,0,none⟩ (int u64 d)=W2 at*;have rO3:=rO2.below b3 rO2.lt;have f0:=rO3.frz;have p0:=rO3.cell
      gi_wp2
      have ev:valB (pre++ [true])=2*valB pre+1:=by rw [valB_snoc];rfl
      refine⟨k2.trans ((keeps_below b3).trans (KeepsOthers.setCell _ _ _)),fun hk=> ?_,⟨⟨?_,?_,?_⟩,?_⟩⟩
      · exact(set_cell W3 (w.heap.size+1+1+1+1+1) _ (by omega)).trans ((b3.cell (p:=⟨w.heap.size+1+1+1+1+1+1,0,none⟩) (World.block_lt_of_cell? W2 _ (c2 hk))).trans (c2 hk))
      · rw [ev,←pow_step1 a 2305843009213693951 c d d2 _ hc.out hd.out hd2.out];exact rO3.set d2
      · exact(rA2.below b3 rA2.lt).other (by omega) _
      · exact(rR2.below b3 rR2.lt).other (by omega) _
      · exact(rB2.tr b3).setCell (p:=⟨w.heap.size+1+1+1+1+1,0,none⟩) (by simp;omega) _
  case done=>
    rintro D xs W hD rfl ⟨⟨rO,rA,rR⟩,rB⟩ hK;rw [valB_all e (by omega),←hres.out] at rO;have o0:=rO.cell;have r0:=rR.cell;have f0:=rR.frz
    gi_wp2
    refine⟨by simp,.inl ⟨_,_,rfl,run_takeDeferred ((KeepsOthers.setCell W ⟨w.heap.size+1,0,none⟩ (int u64 res)).same D _ hK rfl),?_⟩⟩;have rF:=rR.set res;refine⟨.agg #[int u64 res],?_,rfl,?_⟩
    · have hne:D≠w.heap.size+1:=by omega
      have rG:Rp ((W.setCell ⟨w.heap.size+1,0,none⟩ (int u64 res)).putObj D (Obj.deferred none)) 167 (w.heap.size+1) res:=
        ((grownBy_putObj' _ D (Obj.deferred none)).block _ rF.lt (fun e=>hne (Option.some.inj e).symm)).trans rF
      exact results_mid (fn:=Tryz.f203) (p:=4) (ty:=167) results203 _ _ (w.heap.size+1) 0 [int u64 res] _ rfl rG.range underlying167 rfl (by kernel_rfl)
    · have hB3:=rB.setCell (p:=⟨w.heap.size+1,0,none⟩) (by simp) (int u64 res);exact hB3.grown (grownBy_putObj' _ D (Obj.deferred none)) hB3.size (fun k e=>by cases e;omega)
  case stop=>
    rintro D c pre W _ _ h _;exact h.elim
end
section
open M
theorem redP_of (n c:Int)(w:World)(h0:0≤n)(hc:n.tmod 2305843009213693951=c):
    Cr 167 #[int u64 n,.agg #[]] w (.agg #[int u64 c]):=by
  have hm:=methP;have hf:=foldP;have V:=valP;go_enter func167,ntmps167;go_wp2
  go_region_held3 (fun _=>True) (trivial) ((go_simp;go_at_call 277;refine(V _).mono ?_;rintro e w' ⟨rfl,rfl⟩))
  go_wp2;refine bodyPost_ret (v:= .agg #[int u64 c]) (by simp [results,results167,go_sem]) rfl ⟨rfl,?_⟩;exact((((Below.refl _ w).alloc (Nat.le_refl _) _).alloc (by simp) _).alloc (by simp;omega) _).drew
theorem fv_ge (x:Fp):0≤fv x:=by unfold fv;omega
theorem fv_lt (x:Fp):fv x<2305843009213693951:=by have:=val_lt x;unfold fv;omega
theorem rdV (x:Fp)(w:World):
    Cr 167 #[int u64 (fv x),.agg #[]] w (.agg #[int u64 (fv x)]):=
  redP_of _ _ w (fv_ge x) (Int.tmod_eq_of_lt (fv_ge x) (fv_lt x))
theorem rd0 (w:World):Cr 167 #[int u64 0,.agg #[]] w (.agg #[int u64 (fv 0)]):=rdV 0 w
theorem rd1 (w:World):Cr 167 #[int u64 1,.agg #[]] w (.agg #[int u64 (fv 1)]):=rdV 1 w
theorem rd3 (w:World):Cr 167 #[int u64 3,.agg #[]] w (.agg #[int u64 (fv 3)]):=rdV 3 w
theorem rd111 (w:World):Cr 167 #[int u64 111,.agg #[]] w (.agg #[int u64 (fv 111)]):=rdV 111 w
theorem tmV (a b:Fp)(w:World):
    Cr 116 #[.agg #[int u64 (fv a)],.agg #[int u64 (fv b)]] w (.agg #[int u64 (fv (a*b))]):=by
  have:=timP_any a.val b.val w (val_lt a) (val_lt b);rw [←Fin.val_mul] at this;exact this
theorem fv_sub (a b:Fp):fv (a-b)=if fv a<fv b then fv a-fv b+2305843009213693951 else fv a-fv b:=by
  have ha:=val_lt a;have hb:=val_lt b;unfold fv;rw [Fin.val_sub];generalize a.val=A at*;generalize b.val=B at*;split<;>omega
theorem mnV (a b:Fp)(w:World):
    Cr 166 #[.agg #[int u64 (fv a)],.agg #[int u64 (fv b)]] w (.agg #[int u64 (fv (a-b))]):=
  mnP_any (fv a) (fv b) (fv (a-b)) w (fv_ge a) (fv_lt a) (fv_ge b) (fv_lt b) (fv_sub a b)
theorem ngV (a:Fp)(w:World):
    Cr 199 #[.agg #[int u64 (fv a)]] w (.agg #[int u64 (fv (0-a))]):=
  ngP_of (fv a) (fv (0-a)) w (fun w=>mnV 0 a w)
theorem plV (a b:Fp)(w:World):
    Cr 168 #[.agg #[int u64 (fv a)],.agg #[int u64 (fv b)]] w (.agg #[int u64 (fv (a+b))]):=by
  have:=plP_of (fv a) (fv b) (fv (0-b)) (fv (a-(0-b))) w (ngV b) (mnV a (0-b));rwa [show a-(0-b)=a+b by grobner] at this
theorem ivP_of (a c:Int)(w:World)
    (T:Cc 203 #[.agg #[int u64 a],int u64 2305843009213693949] (.agg #[int u64 c])):
    Cr 171 #[.agg #[int u64 a]] w (.agg #[int u64 c]):=by
  have hme:=methP;have V:=valP;have hp:∀w':World,w'.heap[w.heap.size]? =some (.cells #[int u64 a] 167)→(partAt ⟨w.heap.size,0,none⟩ 0 0).run prog w'= .ok ⟨w.heap.size,0,none⟩ w':=fun w' h=>partP h
  obtain⟨X,hX⟩:∃X,X=((w.alloc (Obj.cells #[int u64 a] 167)).alloc (Obj.cells #[int u64 0] 167)).drew:=⟨_,rfl⟩;have hx:R1 X w.heap.size a:=by rw [hX];exact((R1.new w a).alloc _).drew
  have hr:R1 X (w.heap.size+1) 0:=by rw [hX];exact((R1.new _ 0).drew).at (by simp)
  have hbX:Bl w X:=by rw [hX];exact(((Below.refl _ w).alloc (Nat.le_refl _) _).alloc (by simp) _).drew
  have hl:w.heap.size≤X.heap.size:=hbX.size;have hx1:=hx.alloc (Obj.cells #[] 165);have hr1:=hr.alloc (Obj.cells #[] 165);have hb1:=hbX.alloc hl (Obj.cells #[] 165);have c0:=hx.cell;have c1:=hx1.cell;have e0:=hx;have e1:=hx1;have hl1:w.heap.size≤(X.alloc (Obj.cells #[] 165)).heap.size:=hb1.size;unfold R1 at e0 e1;rw [hX] at hx hr hx1 hr1 hb1 c0 c1 e0 e1 hl1;clear hX hbX hl;go_enter func171,ntmps171;go_wp2
  go_region_held3 (fun w'=>w'.cell? ⟨w.heap.size,0,none⟩=some (int u64 a)∧w'.heap[w.heap.size]? =some (.cells #[int u64 a] 167)) (first|exact ⟨c0,e0⟩|exact ⟨c1,e1⟩|exact ⟨c2,e2⟩|exact ⟨c3,e3⟩|go_keep) ((go_simp;first
    |(go_at_call 277;refine(V _).mono ?_;rintro e w' ⟨rfl,rfl⟩)
    |(go_at_call 203;refine(T _).mono ?_;rintro e w2 ⟨rfl,b2⟩;have hx2:=hx1.keep b2;have hr2:=hr1.keep b2;have c2:=hx2.cell;have e2:=hx2;unfold R1 at e2;have cc:=hr2.cell;have ff:=hr2.frz;have hx3:R1 (w2.setCell ⟨w.heap.size+1,0,none⟩ (int u64 c)) w.heap.size a:=hx2.other (by simp) 0 _;have c3:=hx3.cell;have e3:=hx3;unfold R1 at e3)))
  go_wp2;exact bodyPost_ret (v:= .agg #[int u64 c]) (num_res (fn:=Tryz.f171) (p:=2) results171 _ rfl (hr2.set c)) rfl ⟨rfl,(keepB hb1 hl1 b2).setCell (p:=⟨w.heap.size+1,0,none⟩) (by simp) _⟩
theorem ivn_is (p a k:Nat)(hk:k=p-2):a^k%p=ivn p a:=by subst hk;rfl
theorem pow_fi (a:Fp)(k:Nat)(hk:k=2305843009213693951-2):a.val^k%2305843009213693951=(fi a).val:=(ivn_is _ _ _ hk).trans (fi_val a).symm
theorem ivV (a:Fp)(w:World):
    Cr 171 #[.agg #[int u64 (fv a)]] w (.agg #[int u64 (fv (fi a))]):=by
  refine ivP_of (fv a) (fv (fi a)) w fun w=> ?_
  obtain⟨k,hk⟩:∃k:Nat,k=2305843009213693949:=⟨_,rfl⟩;have:=powP_any a.val k w (val_lt a) (by omega);rw [pow_fi a k (by omega)] at this;rw [hk] at this;exact this
def CalN (F:FuncId)(args:Array Value)(r:Int):Prop:=∀w:World,Calls prog F args w fun e w'=>e= .returned (.agg #[int u64 r])∧Bl w w'
section
variable {ev:Operand→Value}{w:World}{dst:Option Tmp}{ty:TypeId}{ps:String}{af:Array Edge}{gd:Option (Nat×Bool)}{x y:Operand}{b i:Nat}
theorem exec_call1 {F:FuncId}{at_:Array TypeId}{u:Value}(hF:ev (.func F)= .func (.func F) #[] #[])(hcf:∀(args:Array Value) (w:World),(callFunc F args).run prog w= .ok (.enter F args) w)(hx:ev x=u):
    (execOp ev (Opr dst (.call {callee:= .value (.func F),args:=#[x],argTypes:=at_}) ty ps af gd)).run prog w= .ok (.enter F #[u]) w:=by
  simp [execOp,hx,hF,hcf,go_sem]
theorem exec_call2 {F:FuncId}{at_:Array TypeId}{u v:Value}(hF:ev (.func F)= .func (.func F) #[] #[])(hcf:∀(args:Array Value) (w:World),(callFunc F args).run prog w= .ok (.enter F args) w)(hx:ev x=u)(hy:ev y=v):
    (execOp ev (Opr dst (.call {callee:= .value (.func F),args:=#[x,y],argTypes:=at_}) ty ps af gd)).run prog w= .ok (.enter F #[u,v]) w:=by
  simp [execOp,hx,hy,hF,hcf,go_sem]
theorem exec_call4 {F:FuncId}{at_:Array TypeId}{x3 x4:Operand}{u v u3 u4:Value}(hF:ev (.func F)= .func (.func F) #[] #[])(hcf:∀(args:Array Value) (w:World),(callFunc F args).run prog w= .ok (.enter F args) w)(hx:ev x=u)(hy:ev y=v)(h3:ev x3=u3)(h4:ev x4=u4):
    (execOp ev (Opr dst (.call {callee:= .value (.func F),args:=#[x,y,x3,x4],argTypes:=at_}) ty ps af gd)).run prog w= .ok (.enter F #[u,v,u3,u4]) w:=by
  simp [execOp,hx,hy,h3,h4,hF,hcf,go_sem]
theorem exec_move {u:Value}(hx:ev x=u):
    (execOp ev (Opr dst (.move x) ty ps af gd)).run prog w= .ok (.value u) w:=by
  simp [execOp,hx,go_sem]
theorem exec_loadN {z:Int}(hx:ev x= .pointer (some ⟨b,i,none⟩))(hc:w.cell? ⟨b,i,none⟩=some (int u64 z)):
    (execOp ev (Opr dst (.load 167 x) ty ps af gd)).run prog w= .ok (.value (.agg #[int u64 z])) w:=by
  simp [execOp,hx,hc,go_sem]
theorem exec_load0 (hx:ev x= .pointer (some ⟨b,i,none⟩)):
    (execOp ev (Opr dst (.load 165 x) ty ps af gd)).run prog w= .ok (.value (.agg #[])) w:=by
  simp [execOp,hx,go_sem]
theorem exec_alloc:(execOp ev (Opr dst (.alloc 167) ty ps af gd)).run prog w= .ok (.value (.pointer (some ⟨w.heap.size,0,none⟩))) (w.alloc (.cells #[int u64 0] 167)):=by
  simp [execOp,go_sem]
theorem exec_store {z z0:Int}(hx:ev x= .pointer (some ⟨b,0,none⟩))(hy:ev y= .agg #[int u64 z])(hr:R1 w b z0):
    (execOp ev (Opr dst (.store 167 x y) ty ps af gd)).run prog w= .ok .skip (w.setCell ⟨b,0,none⟩ (int u64 z)):=by
  have h1:=hr.cell;have h2:=hr.frz;simp [execOp,hx,hy,h1,h2,go_sem]
theorem cf_times (args:Array Value)(w:World):(callFunc 116 args).run prog w= .ok (.enter 116 args) w:=by kernel_rfl
theorem cf_minus (args:Array Value)(w:World):(callFunc 166 args).run prog w= .ok (.enter 166 args) w:=by kernel_rfl
theorem cf_plus (args:Array Value)(w:World):(callFunc 168 args).run prog w= .ok (.enter 168 args) w:=by kernel_rfl
theorem cf_reduced (args:Array Value)(w:World):(callFunc 167 args).run prog w= .ok (.enter 167 args) w:=by kernel_rfl
end
section
variable {A:Act}{w W0:World}{dst:Option Tmp}{ty:TypeId}{ps:String}{af:Array Edge}{gd:Option (Nat×Bool)}{x y x3 x4:Operand}{b i:Nat}
theorem do_call1 {F:FuncId}{at_:Array TypeId}{u r:Value}(hcf:∀(args:Array Value) (w:World),(callFunc F args).run prog w= .ok (.enter F args) w)(hx:A.eval x=u)
    (hc:Cr F #[u] w r):
    Does prog (Opr dst (.call {callee:= .value (.func F),args:=#[x],argTypes:=at_}) ty ps af gd) A w fun v' w'=>v'=r∧Bl w w':=
  does_call (exec_call1 rfl hcf hx) (hc.mono fun _ _ ⟨h,h'⟩=>⟨r,h,rfl,h'⟩)
theorem do_call2 {F:FuncId}{at_:Array TypeId}{u v r:Value}(hcf:∀(args:Array Value) (w:World),(callFunc F args).run prog w= .ok (.enter F args) w)(hx:A.eval x=u)(hy:A.eval y=v)
    (hc:Cr F #[u,v] w r):
    Does prog (Opr dst (.call {callee:= .value (.func F),args:=#[x,y],argTypes:=at_}) ty ps af gd) A w fun v' w'=>v'=r∧Bl w w':=
  does_call (exec_call2 rfl hcf hx hy) (hc.mono fun _ _ ⟨h,h'⟩=>⟨r,h,rfl,h'⟩)
theorem do_call4 {F:FuncId}{at_:Array TypeId}{u v u3 u4 r:Value}(hcf:∀(args:Array Value) (w:World),(callFunc F args).run prog w= .ok (.enter F args) w)(hx:A.eval x=u)(hy:A.eval y=v)(h3:A.eval x3=u3)(h4:A.eval x4=u4)
    (hc:Cr F #[u,v,u3,u4] w r):
    Does prog (Opr dst (.call {callee:= .value (.func F),args:=#[x,y,x3,x4],argTypes:=at_}) ty ps af gd) A w fun v' w'=>v'=r∧Bl w w':=
  does_call (exec_call4 rfl hcf hx hy h3 h4) (hc.mono fun _ _ ⟨h,h'⟩=>⟨r,h,rfl,h'⟩)
theorem do_loadN {z:Int}(hx:A.eval x= .pointer (some ⟨b,0,none⟩))(hr:R1 W0 b z)(hB:Bl W0 w):
    Does prog (Opr dst (.load 167 x) ty ps af gd) A w fun v' w'=>v'= .agg #[int u64 z]∧Bl w w':=
  does_value (exec_loadN hx (hr.keep hB).cell) ⟨rfl,Below.refl _ _⟩
theorem do_loadC {z:Int}(hx:A.eval x= .pointer (some ⟨b,i,none⟩))(hr:W0.cell? ⟨b,i,none⟩=some (int u64 z))(hB:Bl W0 w):
    Does prog (Opr dst (.load 167 x) ty ps af gd) A w fun v' w'=>v'= .agg #[int u64 z]∧Bl w w':=
  does_value (exec_loadN hx (keepC hr hB)) ⟨rfl,Below.refl _ _⟩
theorem do_load0 (hx:A.eval x= .pointer (some ⟨b,i,none⟩)):
    Does prog (Opr dst (.load 165 x) ty ps af gd) A w fun v' w'=>v'= .agg #[]∧Bl w w':=
  does_value (exec_load0 hx) ⟨rfl,Below.refl _ _⟩
theorem do_move {u:Value}(hx:A.eval x=u):
    Does prog (Opr dst (.move x) ty ps af gd) A w fun v' w'=>v'=u∧Bl w w':=by
  have h:=exec_move (ev:=A.eval) (w:=w) (dst:=dst) (ty:=ty) (ps:=ps) (af:=af) (gd:=gd) hx;exact does_value h ⟨rfl,Below.refl _ _⟩
theorem do_new:Does prog (Opr dst (.alloc 167) ty ps af gd) A w fun v w'=>v= .pointer (some ⟨w.heap.size,0,none⟩)∧w'=w.alloc (.cells #[int u64 0] 167):=
  by
  have h:=exec_alloc (ev:=A.eval) (w:=w) (dst:=dst) (ty:=ty) (ps:=ps) (af:=af) (gd:=gd);exact does_value h ⟨rfl,rfl⟩
theorem do_put {z:Int}(hx:A.eval x= .pointer (some ⟨b,0,none⟩))(hy:A.eval y= .agg #[int u64 z])(hr:w.heap[b]? =some (.cells #[int u64 0] 167)):
    Does prog (Opr dst (.store 167 x y) ty ps af gd) A w fun _ w'=>Turned b (.cells #[int u64 z] 167) w w':=by
  have h1:R1 w b 0:=hr;refine does_skip (exec_store hx hy h1) ⟨rfl,rfl,rfl,by simp [World.setCell],h1.set z,fun k hk=> ?_⟩;simp [World.setCell,Array.getElem?_modify,Ne.symm hk]
end
end
end Go.Proofs.YtjhbckngdclleaaGreatDoor
