import Derived.Test.YtjhbckngdclleaaGreatDoorMrg40
set_option linter.unusedVariables false
set_option maxRecDepth 100000
set_option maxHeartbeats 16000000
namespace Go.Proofs.YtjhbckngdclleaaGreatDoor
open Go.Proofs.Tryz Go.RowKit
open Go.Value (int)
open Go.IntKind (u64)
section
open M
theorem bspI (w:World):Cr 62 #[] w (.agg #[int u64 (px gG),int u64 (py gG),.bool (pb gG)]):=by
  have h:Cr 62 #[] w (.agg #[int u64 1,int u64 509478702933351334,.bool false]):=by
    go_enter func62,ntmps62;go_wp2;refine bodyPost_ret (v:= .agg #[int u64 1,int u64 509478702933351334,.bool false]) (by simp [results,results62,go_sem]) rfl ⟨rfl,(Below.refl _ w).alloc (Nat.le_refl _) _⟩
  exact h
theorem fldCp (X Y:Int)(c:Bool)(w:World):(Instr.field 101 (.agg #[int u64 X,int u64 Y,.bool c]) 0).run prog w= .ok (.agg #[int u64 X,int u64 Y,.bool c]) w:=by kernel_rfl
theorem bsI_of (X Y:Int)(c:Bool)(BP:Cc 62 #[] (.agg #[int u64 X,int u64 Y,.bool c]))(w:World):
    Cr 21 #[] w (.agg #[int u64 X,int u64 Y,.bool c]):=by
  have hf:=fldCp;have hr:=Bk.new w 27 #[int u64 0,int u64 0,.bool false];have hb:=balc w (Obj.cells #[int u64 0,int u64 0,.bool false] 27);go_enter func21,ntmps21;go_wp2_with fail;refine(BP _).mono ?_;rintro e w1 ⟨rfl,b1⟩;replace hr:=hr.keep b1;replace hb:=hb.tr b1;have c0:=hr.cell (k:=0) rfl;have c1:=hr.cell (k:=1) rfl;have c2:=hr.cell (k:=2) rfl;have f0:=hr.frz 0;have f1:=hr.frz 1;have f2:=hr.frz 2;go_wp2;refine bodyPost_ret (v:= .agg #[int u64 X,int u64 Y,.bool c]) (bk_res1 (fn:=Tryz.f21) (p:=0) (cs:=#[int u64 X,int u64 Y,.bool c]) results21 _ rfl (((hr.set 0 (int u64 X)).set 1 (int u64 Y)).set 2 (.bool c)) underlying27 rfl (by kernel_rfl)) rfl ⟨rfl,?_⟩;exact((hb.setCell (p:=⟨w.heap.size,0,none⟩) (Nat.le_refl _) _).setCell (p:=⟨w.heap.size,1,none⟩) (Nat.le_refl _) _).setCell (p:=⟨w.heap.size,2,none⟩) (Nat.le_refl _) _
theorem bsI (w:World):Cr 21 #[] w (.agg #[int u64 (px gG),int u64 (py gG),.bool (pb gG)]):=bsI_of _ _ _ bspI w
def tstep (t u:Fp×Fp×Fp):Fp×Fp×Fp:=(cX t.1 t.2.1 t.2.2 u.1 u.2.1 u.2.2,cY t.1 t.2.1 t.2.2 u.1 u.2.1 u.2.2,cZ t.1 t.2.1 t.2.2 u.1 u.2.1 u.2.2)
def trB (t:Fp×Fp×Fp)(l:List Bool):Fp×Fp×Fp:=l.foldl (fun v b=>if b then tstep (tstep v v) t else tstep v v) (0,1,0)
theorem trB_0 (t:Fp×Fp×Fp)(l:List Bool):trB t (l++ [false])=tstep (trB t l) (trB t l):=by simp [trB]
theorem trB_1 (t:Fp×Fp×Fp)(l:List Bool):trB t (l++ [true])=tstep (tstep (trB t l) (trB t l)) t:=by simp [trB]
def rept (t:Fp×Fp×Fp)(p:Pt):Prop:=rep t.1 t.2.1 t.2.2 p
theorem rept_step {t u:Fp×Fp×Fp}{p q:Pt}(hp:on p)(hq:on q)(h:rept t p)(k:rept u q):rept (tstep t u) (ad p q):=rep_c hp hq h k
theorem trB_rep {t:Fp×Fp×Fp}{p:Pt}(hp:on p)(h:rept t p)(l:List Bool):rept (trB t l) (nt (valB l) p):=by
  suffices∀r:List Bool,rept (trB t r.reverse) (nt (valB r.reverse) p) by simpa using this l.reverse
  intro r
  induction r with
  |nil=>exact rep_self none
  | cons b r ih=>
    have h2:=rept_step (nt_on hp _) (nt_on hp _) ih ih;rw [←nt_add hp,←Nat.two_mul] at h2;rw [List.reverse_cons]
    cases b with
    |false=>rw [trB_0,valB_snoc];exact h2
    | true=>
      rw [trB_1,valB_snoc];have h3:=rept_step (nt_on hp _) hp h2 h;exact h3
theorem T3.own {β:Type}(B:Nat)(b:Nat)(g1 g2 g3:β→Int):OwnFrom B (fun s W=>T3 W b (g1 s) (g2 s) (g3 s)):=fun s W W' row hs hg hr=>by
  refine(hg.block b hs.lt (fun e=> ?_)).trans hs;obtain⟨-,o,ho,hc⟩:=hr b e.symm;rw [show W.heap[b]? =_ from hs] at ho;cases ho;cases hc
end
section
open Go.Shelf M
attribute [local go_sem] Oper.semAt_some
theorem setT_cell (W:World)(b:Nat)(x y z:Int){k:Nat}(hne:k≠b):(setT W b x y z).cell? ⟨k,0,none⟩=W.cell? ⟨k,0,none⟩:=by
  unfold setT;refine World.cell?_of_block ?_;rw [setCell_heap _ _ _ _ _ hne,setCell_heap _ _ _ _ _ hne,setCell_heap _ _ _ _ _ hne]
theorem mulP (X Y Z:Fp)(k:Nat)(w:World)(hk:k<18446744073709551616)(t:Fp×Fp×Fp)(ht:t=trB (X,Y,Z) (bitsF k (Lib.bitLen k) (Lib.bitLen k))):
    Calls prog 119 #[.agg #[int u64 (fv X),int u64 (fv Y),int u64 (fv Z)],int u64 k] w fun r w'=>r= .returned (.agg #[int u64 (fv t.1),int u64 (fv t.2.1),int u64 (fv t.2.2)])∧Bl w w':=by
  have B:=bits_of k;refine(callsIn_wide (n:=5)).1 ?_;refine callsIn_of_wp_marks func119 rfl trivial ?_ rfl;simp only [ntmps119,List.size_toArray,List.length_cons,List.length_nil,Nat.reduceAdd,Nat.reduceSub,Array.replicate_succ,Array.replicate_zero,List.push_toArray,List.append_toArray,List.nil_append,List.cons_append]
  gi_wp2_with (first
    |(refine⟨trivial,?_⟩;gi_at_call 114;refine(callsIn_wide.2 (zpP _)).mono ?_;rintro e w1 ⟨rfl,b1⟩)
    |(refine⟨trivial,?_⟩;gi_at_call 118;refine(callsIn_wide.2 (triP_none _)).mono ?_;rintro e w2 ⟨rfl,b2⟩)
    |(refine⟨trivial,?_⟩;gi_at_call 169;refine(callsIn_wide.2 (B _)).mono ?_;rintro e w' ⟨rfl,rfl⟩))
  clear B;have tA0:=((T3.new w (fv X) (fv Y) (fv Z)).alloc (Obj.cells #[int u64 0,int u64 0,int u64 0] 172)).keep b1|>.keep b2;have tR0:=(((T3.new (w.alloc (Obj.cells #[int u64 (fv X),int u64 (fv Y),int u64 (fv Z)] 172)) 0 0 0).at (b':=w.heap.size+1) (by simp)).keep b1).keep b2;have hB0:=keepB (keepB (((Below.refl _ w).alloc (Nat.le_refl _) _).alloc (by simp) _) (by simp;omega) b1) (by have:=b1.size;simp at this;omega) b2;have hO1:w.heap.size+2≤w2.heap.size:=by have h1:=b1.size;have h2:=b2.size;simp at h1;omega
  obtain⟨W0,hW0⟩:∃W0,(w2.alloc (Obj.cells #[int u64 (fv 0),int u64 (fv 1),int u64 (fv 0)] 172)).alloc (Obj.cells #[int u64 (k:Int)] 22)=W0:=⟨_,rfl⟩;rw [hW0];have hsz:W0.heap.size=w2.heap.size+2:=by rw [←hW0];simp
  have hA:T3 W0 w.heap.size (fv X) (fv Y) (fv Z):=by rw [←hW0];exact(tA0.alloc _).alloc _
  have hR:T3 W0 (w.heap.size+1) 0 0 0:=by rw [←hW0];exact(tR0.alloc _).alloc _
  have hO:T3 W0 w2.heap.size (fv 0) (fv 1) (fv 0):=by rw [←hW0];exact(T3.new w2 _ _ _).alloc _
  have hE:W0.cell? ⟨w2.heap.size+1,0,none⟩=some (int u64 k):=by
    rw [←hW0];exact(cell_new1 _ _ _ (by simp))
  have hB:Bl w W0:=by
    rw [←hW0];exact(hB0.alloc hB0.size _).alloc (by simp;omega) _
  clear hW0 tA0 tR0 hB0 b1 b2;generalize w2.heap.size=O at*
  refine wpIn_rangeFunc_ownF (F:=Fence.wide) (n:=5) rfl (by omega) (gf:=200) (lb:=#[.pointer (some ⟨O+1,0,none⟩)]) rfl trivial (enters_of func200 (by kernel_rfl) rfl)
    (bit_stops (5-1) (by omega) k (O+1) hk W0 hE (by omega)) (fun h k x=>k (h x)) ?hKb (Below.refl _ _) (fun _=>rfl)
    (fun pre W=>(T3 W O (fv (trB (X,Y,Z) pre).1) (fv (trB (X,Y,Z) pre).2.1) (fv (trB (X,Y,Z) pre).2.2)∧T3 W w.heap.size (fv X) (fv Y) (fv Z)∧T3 W (w.heap.size+1) 0 0 0)∧Bl w W)
    (fun _ _ _=>False)
    (OwnFrom.and (OwnFrom.and (T3.own _ _ _ _ _) (OwnFrom.and (T3.own _ _ (fun _=>fv X) (fun _=>fv Y) (fun _=>fv Z)) (T3.own _ _ (fun _=>0) (fun _=>0) (fun _=>0)))) (ownFrom_below (Nat.le_refl _) (by omega)))
    (fun _ _ _ _ _ hs _ _=>hs)
    ⟨⟨hO,hA,hR⟩,hB⟩
    (fun x=>{tmps:=#[.agg #[int u64 (fv X),int u64 (fv Y),int u64 (fv Z)],int u64 k,
          .pointer (some ⟨w.heap.size,0,none⟩),undef,.pointer (some ⟨w.heap.size+1,0,none⟩),
          .pointer (some ⟨O,0,none⟩),.bool x,.agg #[int u64 0,int u64 0,.bool true],
          .agg #[int u64 (fv 0),int u64 (fv 1),int u64 (fv 0)],int u64 k,
          .func (Fn.func 200) #[] #[.pointer (some ⟨O+1,0,none⟩)],.bool x,undef,undef,undef,undef,undef,undef,undef,undef],defers:= []}) ?assign ?body ?done ?stop
  case hKb=>
    intro W l o o' hl ho hc _ hcell;have hne:O+1≠l:=by omega
    refine(World.cell?_of_block ?_).trans hcell;exact(grownBy_putObj' W l o').block _ (World.block_lt_of_cell? W _ hcell) (fun e=>hne (Option.some.inj e))
  case assign=>
    intro l x W K hK
    gi_wp2
    exact hK
  case body=>
    rintro l pre x W ⟨⟨rO,rA,rR⟩,rB⟩ _;have e0:=trB_0 (X,Y,Z) pre;have e1:=trB_1 (X,Y,Z) pre;obtain⟨⟨C1,C2,C3⟩,hc⟩:∃c,c=trB (X,Y,Z) pre:=⟨_,rfl⟩;rw [←hc] at rO e0 e1;have T1:=trV C1 C2 C3 C1 C2 C3;have T2:=trV (cX C1 C2 C3 C1 C2 C3) (cY C1 C2 C3 C1 C2 C3) (cZ C1 C2 C3 C1 C2 C3) X Y Z;obtain⟨D1,hD1⟩:∃d,d=cX C1 C2 C3 C1 C2 C3:=⟨_,rfl⟩;obtain⟨D2,hD2⟩:∃d,d=cY C1 C2 C3 C1 C2 C3:=⟨_,rfl⟩;obtain⟨D3,hD3⟩:∃d,d=cZ C1 C2 C3 C1 C2 C3:=⟨_,rfl⟩;unfold tstep at e0 e1;simp only at e0 e1;rw [←hD1,←hD2,←hD3] at T1 T2 e0 e1;obtain⟨E1,hE1⟩:∃d,d=cX D1 D2 D3 X Y Z:=⟨_,rfl⟩;obtain⟨E2,hE2⟩:∃d,d=cY D1 D2 D3 X Y Z:=⟨_,rfl⟩;obtain⟨E3,hE3⟩:∃d,d=cZ D1 D2 D3 X Y Z:=⟨_,rfl⟩;rw [←hE1,←hE2,←hE3] at T2 e1;have e0:Hid _:=e0;have e1:Hid _:=e1;clear hc hD1 hD2 hD3 hE1 hE2 hE3 hk ht;have o0:=rO.c0;have o1:=rO.c1;have o2:=rO.c2;cases x
    · gi_wp2_with fail
      refine⟨trivial,?_⟩
      gi_at_call 170
      refine(CallsIn.inRound l (callsIn_wide.2 (T1 _))).mono ?_;rintro e' W1 ⟨rfl,b1⟩;have rO1:=rO.keep b1;have f0:=rO1.frz 0;have f1:=rO1.frz 1;have f2:=rO1.frz 2;have p0:=rO1.c0;have p1:=rO1.c1;have p2:=rO1.c2
      gi_wp2
      refine⟨(keeps_below b1).trans (((KeepsOthers.setCell _ _ _).trans (KeepsOthers.setCell _ _ _)).trans (KeepsOthers.setCell _ _ _)),fun hkc=> ?_,⟨⟨?_,?_,?_⟩,?_⟩⟩
      · exact(setT_cell W1 O _ _ _ (by omega)).trans (keepC hkc b1)
      · rw [e0.out];exact rO1.set _ _ _
      · exact(rA.keep b1).other (by omega) _ _ _
      · exact(rR.keep b1).other (by omega) _ _ _
      · exact setT_below (rB.tr b1) (by omega)
    · gi_wp2_with fail
      refine⟨trivial,?_⟩
      gi_at_call 170
      refine(CallsIn.inRound l (callsIn_wide.2 (T1 _))).mono ?_;rintro e' W1 ⟨rfl,b1⟩;have rO1:=rO.keep b1;have f0:=rO1.frz 0;have f1:=rO1.frz 1;have f2:=rO1.frz 2;have p0:=rO1.c0;have p1:=rO1.c1;have p2:=rO1.c2;have rO2:=rO1.set (fv D1) (fv D2) (fv D3);have rA2:=(rA.keep b1).other (b':=O) (by omega) (fv D1) (fv D2) (fv D3);have rR2:=(rR.keep b1).other (b':=O) (by omega) (fv D1) (fv D2) (fv D3);have rB2:=setT_below (b:=O) (x:=fv D1) (y:=fv D2) (z:=fv D3) (rB.tr b1) (by omega);have k2:KeepsOthers W (setT W1 O (fv D1) (fv D2) (fv D3)):=(keeps_below b1).trans (((KeepsOthers.setCell _ _ _).trans (KeepsOthers.setCell _ _ _)).trans (KeepsOthers.setCell _ _ _));have c2:W.cell? ⟨O+1,0,none⟩=some (int u64 k)→(setT W1 O (fv D1) (fv D2) (fv D3)).cell? ⟨O+1,0,none⟩=some (int u64 k):=fun hkc=>(setT_cell W1 O _ _ _ (by omega)).trans (keepC hkc b1)
      have q0:=rO2.c0;have q1:=rO2.c1;have q2:=rO2.c2;have q3:=rA2.c0;have q4:=rA2.c1;have q5:=rA2.c2;unfold setT at q0 q1 q2 q3 q4 q5
      gi_wp2_with fail
      refine⟨trivial,?_⟩
      gi_at_call 170
      refine(CallsIn.inRound l (callsIn_wide.2 (T2 (setT W1 O (fv D1) (fv D2) (fv D3))))).mono ?_;rintro e' W3 ⟨rfl,b3⟩;clear q0 q1 q2 q3 q4 q5 f0 f1 f2 p0 p1 p2 o0 o1 o2;generalize setT W1 O (fv D1) (fv D2) (fv D3)=W2 at*;have rO3:=rO2.keep b3;have f0:=rO3.frz 0;have f1:=rO3.frz 1;have f2:=rO3.frz 2;have p0:=rO3.c0;have p1:=rO3.c1;have p2:=rO3.c2
      gi_wp2
      refine⟨k2.trans ((keeps_below b3).trans (((KeepsOthers.setCell _ _ _).trans (KeepsOthers.setCell _ _ _)).trans (KeepsOthers.setCell _ _ _))),fun hkc=> ?_,⟨⟨?_,?_,?_⟩,?_⟩⟩
      · exact(setT_cell W3 O _ _ _ (by omega)).trans (keepC (c2 hkc) b3)
      · rw [e1.out];exact rO3.set _ _ _
      · exact(rA2.keep b3).other (by omega) _ _ _
      · exact(rR2.keep b3).other (by omega) _ _ _
      · exact setT_below (rB2.tr b3) (by omega)
  case done=>
    rintro D xs W hD rfl ⟨⟨rO,rA,rR⟩,rB⟩ hK;rw [←ht] at rO;have o0:=rO.c0;have o1:=rO.c1;have o2:=rO.c2;have r0:=rR.c0;have r1:=rR.c1;have r2:=rR.c2;have f0:=rR.frz 0;have f1:=rR.frz 1;have f2:=rR.frz 2;clear ht
    gi_wp2
    refine⟨by simp,.inl ⟨_,_,rfl,run_takeDeferred ((((KeepsOthers.setCell W ⟨w.heap.size+1,0,none⟩ (int u64 (fv t.1))).trans (KeepsOthers.setCell _ ⟨w.heap.size+1,1,none⟩ (int u64 (fv t.2.1)))).trans (KeepsOthers.setCell _ ⟨w.heap.size+1,2,none⟩ (int u64 (fv t.2.2)))).same D _ hK rfl),?_⟩⟩;have rF:=rR.set (fv t.1) (fv t.2.1) (fv t.2.2);refine⟨.agg #[int u64 (fv t.1),int u64 (fv t.2.1),int u64 (fv t.2.2)],?_,rfl,?_⟩
    · have hne:D≠w.heap.size+1:=by omega
      have rG:T3 ((setT W (w.heap.size+1) (fv t.1) (fv t.2.1) (fv t.2.2)).putObj D (Obj.deferred none)) (w.heap.size+1) (fv t.1) (fv t.2.1) (fv t.2.2):=
        ((grownBy_putObj' _ D (Obj.deferred none)).block _ rF.lt (fun e=>hne (Option.some.inj e).symm)).trans rF
      exact trip_res (fn:=Tryz.f119) (p:=4) results119 _ rfl rG
    · have hB3:=setT_below (b:=w.heap.size+1) (x:=fv t.1) (y:=fv t.2.1) (z:=fv t.2.2) rB (by omega);exact hB3.grown (grownBy_putObj' _ D (Obj.deferred none)) hB3.size (fun k e=>by cases e;omega)
  case stop=>
    rintro D c pre W _ _ h _;exact h.elim
end
section
open M
theorem ctm_of (x y a b s a2 b2 s2 x4 y4:Int)(k:Int)(c c4:Bool)(w:World)
    (K1:Cc 118 #[.agg #[int u64 x,int u64 y,.bool c]] (.agg #[int u64 a,int u64 b,int u64 s]))
    (K2:Cc 119 #[.agg #[int u64 a,int u64 b,int u64 s],int u64 k] (.agg #[int u64 a2,int u64 b2,int u64 s2]))
    (K4:Cc 120 #[.agg #[int u64 a2,int u64 b2,int u64 s2]] (.agg #[int u64 x4,int u64 y4,.bool c4])):
    Cr 61 #[.agg #[int u64 x,int u64 y,.bool c],int u64 k] w (.agg #[int u64 x4,int u64 y4,.bool c4]):=by
  obtain⟨X,hX⟩:∃X,X=(w.alloc (Obj.cells #[int u64 x,int u64 y,.bool c] 101)).alloc (Obj.cells #[int u64 0,int u64 0,.bool false] 101):=⟨_,rfl⟩;have hr:K3 X 101 (w.heap.size+1) 0 0 false:=by rw [hX];exact(K3.new _ _ 0 0 false).at (by simp)
  have hb:Bl w X:=by rw [hX];exact((Below.refl _ w).alloc (Nat.le_refl _) _).alloc (by simp) _
  rw [hX] at hr hb;clear hX;go_enter func61,ntmps61;go_wp2_with fail;refine(K1 _).mono ?_;rintro e w1 ⟨rfl,b1⟩;go_wp2_with fail;refine(K2 _).mono ?_;rintro e w2 ⟨rfl,b2⟩;go_wp2_with fail;refine(K4 _).mono ?_;rintro e w3 ⟨rfl,b3⟩;replace hr:=((hr.keep b1).keep b2).keep b3;replace hb:=keepB (keepB (keepB hb hb.size b1) (Nat.le_trans hb.size b1.size) b2) (Nat.le_trans hb.size (Nat.le_trans b1.size b2.size)) b3;clear b1 b2 b3;have c0:=hr.c0;have c1:=hr.c1;have c2:=hr.c2;have f0:=hr.frz 0;have f1:=hr.frz 1;have f2:=hr.frz 2;go_wp2;exact bodyPost_ret (v:= .agg #[int u64 x4,int u64 y4,.bool c4]) (cp_res (fn:=Tryz.f61) (p:=4) results61 _ rfl (hr.set _ _ _)) rfl ⟨rfl,set3_below hb (by omega)⟩
theorem ctmV {p:Pt}(hp:on p)(k:Nat)(hk:k<18446744073709551616)(w:World):
    Cr 61 #[ptW p,int u64 k] w (ptW (nt k p)):=by
  have K1:=triV p;have hr:=trB_rep (t:=(pX p,pY p,pZ p)) hp (rep_self p) (bitsF k (Lib.bitLen k) (Lib.bitLen k));rw [valB_all k (by omega)] at hr;have K2:=fun w=>mulP (pX p) (pY p) (pZ p) k w hk _ rfl
  have K4:=pntV hr;rw [ptW_eq] at K1 K4⊢;rw [ptW_eq (nt k p)];exact ctm_of _ _ _ _ _ _ _ _ _ _ _ _ _ w K1 K2 K4
end
end Go.Proofs.YtjhbckngdclleaaGreatDoor
