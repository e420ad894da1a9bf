import Derived.Test.YtmjniccfjffclaaGreatDoorMrg42
set_option linter.unusedVariables false
set_option maxRecDepth 100000
set_option maxHeartbeats 16000000
namespace Go.Proofs.YtmjniccfjffclaaGreatDoor
open Go.Proofs.Tryz Go.RowKit
open Go.Value (int)
open Go.IntKind (u64)
section
open M
theorem rdS_of (mode blind pc ps x1 y1 x2 y2 x3 y3 xe ye:Int)(c1 c2 c3 ce k e3 ee e1 e2 R:Bool)(q:Option Addr)(n cap:Nat)(w:World)
    (hR:Hid (R=(k&&e3&&decide (n=1)&&ee&& !decide (2305843010818082053≤pc)&& !decide (2305843010818082053≤ps)&&e1&&(if mode=2 then e2 else decide (x2=0∧y2=0∧c2=true)))))
    (hc:Hid (n=1→∃g,q=some ⟨g,0,none⟩∧w.cell? ⟨g,0,none⟩=some (int u64 xe)∧w.cell? ⟨g,1,none⟩=some (int u64 ye)∧w.cell? ⟨g,2,none⟩=some (.bool ce)))
    (K:∀w,Calls prog 31 #[int u64 blind] w fun e w'=>e= .returned (.bool k)∧w=w')
    (E3:Cc 32 #[.agg #[int u64 x3,int u64 y3,.bool c3]] (.bool e3))
    (EE:Cc 32 #[.agg #[int u64 xe,int u64 ye,.bool ce]] (.bool ee))
    (E1:Cc 32 #[.agg #[int u64 x1,int u64 y1,.bool c1]] (.bool e1))
    (E2:Cc 32 #[.agg #[int u64 x2,int u64 y2,.bool c2]] (.bool e2)):
    Cr 56 #[.int .i64 mode,int u64 blind,.agg #[.slice q n cap,int u64 pc,int u64 ps],.agg #[int u64 x1,int u64 y1,.bool c1,int u64 x2,int u64 y2,.bool c2],.agg #[int u64 x3,int u64 y3,.bool c3]] w (.bool R):=by
  obtain⟨X,hX⟩:∃X,X=((w.alloc (Obj.cells #[.slice q n cap,int u64 pc,int u64 ps] 30)).alloc (Obj.cells #[int u64 x1,int u64 y1,.bool c1,int u64 x2,int u64 y2,.bool c2] 39)).alloc (Obj.cells #[int u64 x3,int u64 y3,.bool c3] 34):=⟨_,rfl⟩;have rE:Bk X 30 w.heap.size #[.slice q n cap,int u64 pc,int u64 ps]:=by rw [hX];exact((Bk.new _ _ _).alloc _).alloc _
  have rB:Bk X 39 (w.heap.size+1) #[int u64 x1,int u64 y1,.bool c1,int u64 x2,int u64 y2,.bool c2]:=by rw [hX];exact((Bk.new _ _ _).at (by simp)).alloc _
  have rP:Bk X 34 (w.heap.size+1+1) #[int u64 x3,int u64 y3,.bool c3]:=by rw [hX];exact(Bk.new _ _ _).at (by simp)
  have hb:Bl w X:=by rw [hX];exact(((Below.refl _ w).alloc (Nat.le_refl _) _).alloc (by simp) _).alloc (by simp;omega) _
  rw [hX] at rE rB rP hb;clear hX;go_enter func56,ntmps56;go_wp2_with fail;refine(K _).mono ?_;rintro e w1 ⟨rfl,rfl⟩;clear K
  cases k with
  | false=>
    go_wp2;go_ret;exact⟨by rw [hR.out];rfl,hb⟩
  |true=>
  have p0:=rP.cell (k:=0) rfl;have p1:=rP.cell (k:=1) rfl;have p2:=rP.cell (k:=2) rfl;go_wp2_with fail;refine(E3 _).mono ?_;rintro e w2 ⟨rfl,b1⟩;replace rE:=rE.keep b1;replace rB:=rB.keep b1;replace hb:=hb.tr b1;clear E3 p0 p1 p2 b1 rP
  cases e3 with
  | false=>
    go_wp2;go_ret;exact⟨by rw [hR.out];rfl,hb⟩
  |true=>
  have p0:=rE.cell (k:=0) rfl;by_cases hn:n=1
  case neg=>
    have hn':((n:Int) !=1)=true:=by simp;omega
    go_wp2;go_ret;exact⟨by rw [hR.out,decide_eq_false hn];rfl,hb⟩
  subst hn;obtain⟨g,rfl,c0,c1',c2'⟩:=hc.out rfl;have d0:=(hb.cell (p:=⟨g,0,none⟩) (World.block_lt_of_cell? w _ c0)).trans c0;have d1:=(hb.cell (p:=⟨g,1,none⟩) (World.block_lt_of_cell? w _ c1')).trans c1';have d2:=(hb.cell (p:=⟨g,2,none⟩) (World.block_lt_of_cell? w _ c2')).trans c2';clear c0 c1' c2' hc;go_wp2_with fail;refine(EE _).mono ?_;rintro e w3 ⟨rfl,b1⟩;replace rE:=rE.keep b1;replace rB:=rB.keep b1;replace hb:=hb.tr b1;clear EE p0 d0 d1 d2 b1
  cases ee with
  | false=>
    go_wp2;go_ret;exact⟨by rw [hR.out];rfl,hb⟩
  |true=>
  have p1:=rE.cell (k:=1) rfl;have p2:=rE.cell (k:=2) rfl;have q0:=rB.cell (k:=0) rfl;have q1:=rB.cell (k:=1) rfl;have q2:=rB.cell (k:=2) rfl;by_cases hpc:2305843010818082053≤pc
  · go_wp2;go_ret;exact⟨by rw [hR.out,decide_eq_true hpc];rfl,hb⟩
  by_cases hps:2305843010818082053≤ps
  · go_wp2;go_ret;exact⟨by rw [hR.out,decide_eq_true hps];simp,hb⟩
  go_wp2_with fail;refine(E1 _).mono ?_;rintro e w4 ⟨rfl,b1⟩;replace rB:=rB.keep b1;replace hb:=hb.tr b1;clear E1 p1 p2 q0 q1 q2 b1 rE
  cases e1 with
  | false=>
    go_wp2;go_ret;exact⟨by rw [hR.out];simp,hb⟩
  |true=>
  rw [decide_eq_false (show ¬ 2305843010818082053≤pc by omega),decide_eq_false (show ¬ 2305843010818082053≤ps by omega)] at hR;have r0:=rB.cell (k:=3) rfl;have r1:=rB.cell (k:=4) rfl;have r2:=rB.cell (k:=5) rfl;by_cases hm:mode=2
  · subst hm;go_wp2_with fail;refine(E2 _).mono ?_;rintro e w5 ⟨rfl,b1⟩;replace hb:=hb.tr b1;clear E2 b1 r0 r1 r2;go_wp2;go_ret;exact⟨by rw [hR.out];simp,hb⟩
  have hm':(mode==2)=false:=by simpa using hm
  go_wp2;clear r0 r1 r2 hm';have k0:w4.drew.cell? ⟨w.heap.size+1,3,none⟩=_:=rB.cell (k:=3) rfl;have k1:w4.drew.cell? ⟨w.heap.size+1,4,none⟩=_:=rB.cell (k:=4) rfl;have k2:w4.drew.cell? ⟨w.heap.size+1,5,none⟩=_:=rB.cell (k:=5) rfl;rw [if_neg hm] at hR;by_cases ht:x2=0∧y2=0∧c2=true
  · obtain⟨rfl,rfl,rfl⟩:=ht
    refine G.pool_list (W:=w4) [] [.val (.pointer (some ⟨w.heap.size+1,3,none⟩)),
        .val (.agg #[int u64 0,int u64 0,.bool true]),
        .val (.agg #[int u64 0,int u64 0,.bool true]),
        .val (.bool true),
        .val (.bool true)] [[8],[56],[],[57,58],[59]] (fun f=> [(some 56,.pointer (some ⟨w.heap.size+1,3,none⟩)),(some 57,.agg #[int u64 0,int u64 0,.bool true]),(some 58,.agg #[int u64 0,int u64 0,.bool true]),(some 59,.bool true),(some 10,.bool true)]) (by kernel_rfl) (by kernel_rfl) (by kernel_rfl) (by kernel_rfl) (fun _=>by kernel_rfl) (G.last_of [] (fun F R hm=>by simp at hm) (fun ob ob' k hm=>by simp at hm) (fun b ob ob' hm=>by simp at hm)) (fun b ob ob' hm=>by simp at hm) ?_ ?_
    · intro ix hix
      match ix,hix with
      |0,_=>exact G.obv [(8,.pointer (some ⟨w.heap.size+1,0,none⟩))] rfl rfl (fun A w ⟨e0,_⟩ hB=>fa_bld1 e0)
      |1,_=>exact G.obv [(56,.pointer (some ⟨w.heap.size+1,3,none⟩))] rfl rfl (fun A w ⟨e0,_⟩ hB=>ld_pt e0 (hB.cell k0 (by simp)) (hB.cell k1 (by simp)) (hB.cell k2 (by simp)))
      |2,_=>exact G.obv [] rfl rfl (fun A w _ hB=>cl0 cf_spec_l3Zero (zroS w))
      |3,_=>exact G.obv [(57,.agg #[int u64 0,int u64 0,.bool true]),(58,.agg #[int u64 0,int u64 0,.bool true])] rfl rfl (fun A w ⟨e0,e1,_⟩ hB=>eq_ptT e0 e1)
      |4,_=>exact G.obv [(59,.bool true)] rfl rfl (fun A w ⟨e0,_⟩ hB=>doV_assign e0)
      |ix+5,h=>exact absurd h (by simp)
    intro f W5 hS _ _ _ _;replace hb:=hb.drew.trans (hS.below.mono hb.size);clear hS k0 k1 k2;simp only [puts,List.foldl,Act.put,List.setIfInBounds_toArray,List.set_cons_zero,List.set_cons_succ];go_wp2;go_ret;exact⟨by rw [hR.out];simp,hb⟩
  refine G.pool_list (W:=w4) [] [.val (.pointer (some ⟨w.heap.size+1,3,none⟩)),
      .val (.agg #[int u64 x2,int u64 y2,.bool c2]),
      .val (.agg #[int u64 0,int u64 0,.bool true]),
      .val (.bool false),
      .val (.bool false)] [[8],[56],[],[57,58],[59]] (fun f=> [(some 56,.pointer (some ⟨w.heap.size+1,3,none⟩)),(some 57,.agg #[int u64 x2,int u64 y2,.bool c2]),(some 58,.agg #[int u64 0,int u64 0,.bool true]),(some 59,.bool false),(some 10,.bool false)]) (by kernel_rfl) (by kernel_rfl) (by kernel_rfl) (by kernel_rfl) (fun _=>by kernel_rfl) (G.last_of [] (fun F R hm=>by simp at hm) (fun ob ob' k hm=>by simp at hm) (fun b ob ob' hm=>by simp at hm)) (fun b ob ob' hm=>by simp at hm) ?_ ?_
  · intro ix hix
    match ix,hix with
    |0,_=>exact G.obv [(8,.pointer (some ⟨w.heap.size+1,0,none⟩))] rfl rfl (fun A w ⟨e0,_⟩ hB=>fa_bld1 e0)
    |1,_=>exact G.obv [(56,.pointer (some ⟨w.heap.size+1,3,none⟩))] rfl rfl (fun A w ⟨e0,_⟩ hB=>ld_pt e0 (hB.cell k0 (by simp)) (hB.cell k1 (by simp)) (hB.cell k2 (by simp)))
    |2,_=>exact G.obv [] rfl rfl (fun A w _ hB=>cl0 cf_spec_l3Zero (zroS w))
    |3,_=>exact G.obv [(57,.agg #[int u64 x2,int u64 y2,.bool c2]),(58,.agg #[int u64 0,int u64 0,.bool true])] rfl rfl (fun A w ⟨e0,e1,_⟩ hB=>eq_ptF ht e0 e1)
    |4,_=>exact G.obv [(59,.bool false)] rfl rfl (fun A w ⟨e0,_⟩ hB=>doV_assign e0)
    |ix+5,h=>exact absurd h (by simp)
  intro f W5 hS _ _ _ _;replace hb:=hb.drew.trans (hS.below.mono hb.size);clear hS k0 k1 k2;simp only [puts,List.foldl,Act.put,List.setIfInBounds_toArray,List.set_cons_zero,List.set_cons_succ];go_wp2;go_ret;exact⟨by rw [hR.out,decide_eq_false ht];simp,hb⟩
theorem fnS_a (mode blind pc ps x1 y1 x2 y2 x3 y3:Int)(c1 c2 c3:Bool)(input info:ByteArray)(q:Option Addr)(n cap:Nat)(w:World)
    (T:∀w,Calls prog 30 #[.int .i64 mode,.string input,.string info] w fun e w'=>e= .returned (.bool false)∧w=w'):
    Cr 23 #[.int .i64 mode,.string input,.string info,int u64 blind,.agg #[.slice q n cap,int u64 pc,int u64 ps],.agg #[int u64 x1,int u64 y1,.bool c1,int u64 x2,int u64 y2,.bool c2],.agg #[int u64 x3,int u64 y3,.bool c3]] w (.tuple #[.string ⟨#[]⟩,.int .i64 1]):=by
  obtain⟨X,hX⟩:∃X,X=((w.alloc (Obj.cells #[.slice q n cap,int u64 pc,int u64 ps] 30)).alloc (Obj.cells #[int u64 x1,int u64 y1,.bool c1,int u64 x2,int u64 y2,.bool c2] 39)).alloc (Obj.cells #[int u64 x3,int u64 y3,.bool c3] 34):=⟨_,rfl⟩;have rE:Bk X 30 w.heap.size #[.slice q n cap,int u64 pc,int u64 ps]:=by rw [hX];exact((Bk.new _ _ _).alloc _).alloc _
  have rB:Bk X 39 (w.heap.size+1) #[int u64 x1,int u64 y1,.bool c1,int u64 x2,int u64 y2,.bool c2]:=by rw [hX];exact((Bk.new _ _ _).at (by simp)).alloc _
  have rP:Bk X 34 (w.heap.size+1+1) #[int u64 x3,int u64 y3,.bool c3]:=by rw [hX];exact(Bk.new _ _ _).at (by simp)
  have hb:Bl w X:=by rw [hX];exact(((Below.refl _ w).alloc (Nat.le_refl _) _).alloc (by simp) _).alloc (by simp;omega) _
  rw [hX] at rE rB rP hb;clear hX;go_enter func23,ntmps23;go_wp2_with fail;refine(T _).mono ?_;rintro e w' ⟨rfl,rfl⟩;clear T;go_wp2;go_ret2;exact⟨rfl,hb⟩
theorem fnS_b (mode blind pc ps x1 y1 x2 y2 x3 y3:Int)(c1 c2 c3:Bool)(input info:ByteArray)(q:Option Addr)(n cap:Nat)(w:World)
    (T:∀w,Calls prog 30 #[.int .i64 mode,.string input,.string info] w fun e w'=>e= .returned (.bool true)∧w=w')
    (RD:(Cb w 56 #[.int .i64 mode,int u64 blind,.agg #[.slice q n cap,int u64 pc,int u64 ps],.agg #[int u64 x1,int u64 y1,.bool c1,int u64 x2,int u64 y2,.bool c2],.agg #[int u64 x3,int u64 y3,.bool c3]] (.bool false))):
    Cr 23 #[.int .i64 mode,.string input,.string info,int u64 blind,.agg #[.slice q n cap,int u64 pc,int u64 ps],.agg #[int u64 x1,int u64 y1,.bool c1,int u64 x2,int u64 y2,.bool c2],.agg #[int u64 x3,int u64 y3,.bool c3]] w (.tuple #[.string ⟨#[]⟩,.int .i64 1]):=by
  obtain⟨X,hX⟩:∃X,X=((w.alloc (Obj.cells #[.slice q n cap,int u64 pc,int u64 ps] 30)).alloc (Obj.cells #[int u64 x1,int u64 y1,.bool c1,int u64 x2,int u64 y2,.bool c2] 39)).alloc (Obj.cells #[int u64 x3,int u64 y3,.bool c3] 34):=⟨_,rfl⟩;have rE:Bk X 30 w.heap.size #[.slice q n cap,int u64 pc,int u64 ps]:=by rw [hX];exact((Bk.new _ _ _).alloc _).alloc _
  have rB:Bk X 39 (w.heap.size+1) #[int u64 x1,int u64 y1,.bool c1,int u64 x2,int u64 y2,.bool c2]:=by rw [hX];exact((Bk.new _ _ _).at (by simp)).alloc _
  have rP:Bk X 34 (w.heap.size+1+1) #[int u64 x3,int u64 y3,.bool c3]:=by rw [hX];exact(Bk.new _ _ _).at (by simp)
  have hb:Bl w X:=by rw [hX];exact(((Below.refl _ w).alloc (Nat.le_refl _) _).alloc (by simp) _).alloc (by simp;omega) _
  rw [hX] at rE rB rP hb;clear hX;go_enter func23,ntmps23;go_wp2_with fail;refine(T _).mono ?_;rintro e w' ⟨rfl,rfl⟩;clear T;have rEc0:=rE.cell (k:=0) rfl;have rEc1:=rE.cell (k:=1) rfl;have rEc2:=rE.cell (k:=2) rfl;have rBc0:=rB.cell (k:=0) rfl;have rBc1:=rB.cell (k:=1) rfl;have rBc2:=rB.cell (k:=2) rfl;have rBc3:=rB.cell (k:=3) rfl;have rBc4:=rB.cell (k:=4) rfl;have rBc5:=rB.cell (k:=5) rfl;have rPc0:=rP.cell (k:=0) rfl;have rPc1:=rP.cell (k:=1) rfl;have rPc2:=rP.cell (k:=2) rfl;go_wp2_with fail;refine(RD _ hb).mono ?_;rintro e w1 ⟨rfl,b1⟩;replace hb:=hb.tr b1;clear RD b1 rEc0 rEc1 rEc2 rBc0 rBc1 rBc2 rBc3 rBc4 rBc5 rPc0 rPc1 rPc2;go_wp2;go_ret2;exact⟨rfl,hb⟩
theorem fnS_0 (mode blind pc ps x1 y1 x2 y2 x3 y3 iv xe ye:Int)(c1 c2 c3 ce:Bool)(input info R:ByteArray)(g cap:Nat)(u:Pt)(w:World)
    (hm1:(mode==1)=false)(hm2:(mode==2)=false)
    (T:∀w,Calls prog 30 #[.int .i64 mode,.string input,.string info] w fun e w'=>e= .returned (.bool true)∧w=w')
    (RD:(Cb w 56 #[.int .i64 mode,int u64 blind,.agg #[.slice (some ⟨g,0,none⟩) 1 cap,int u64 pc,int u64 ps],.agg #[int u64 x1,int u64 y1,.bool c1,int u64 x2,int u64 y2,.bool c2],.agg #[int u64 x3,int u64 y3,.bool c3]] (.bool true)))
    (h0:w.cell? ⟨g,0,none⟩=some (int u64 xe))(h1:w.cell? ⟨g,1,none⟩=some (int u64 ye))(h2:w.cell? ⟨g,2,none⟩=some (.bool ce))
    (IV:(Cc 58 #[int u64 blind,int u64 2305843010818082053] (int u64 iv)))
    (TM:(Cc 15 #[int u64 iv,.agg #[int u64 xe,int u64 ye,.bool ce]] (.agg #[int u64 (px u),int u64 (py u),.bool (pb u)])))
    (OU:(Cc 51 #[.int .i64 mode,.string input,.string info,.agg #[int u64 (px u),int u64 (py u),.bool (pb u)]] (.string R))):
    Cr 23 #[.int .i64 mode,.string input,.string info,int u64 blind,.agg #[.slice (some ⟨g,0,none⟩) 1 cap,int u64 pc,int u64 ps],.agg #[int u64 x1,int u64 y1,.bool c1,int u64 x2,int u64 y2,.bool c2],.agg #[int u64 x3,int u64 y3,.bool c3]] w (.tuple #[.string R,.int .i64 0]):=by
  obtain⟨X,hX⟩:∃X,X=((w.alloc (Obj.cells #[.slice (some ⟨g,0,none⟩) 1 cap,int u64 pc,int u64 ps] 30)).alloc (Obj.cells #[int u64 x1,int u64 y1,.bool c1,int u64 x2,int u64 y2,.bool c2] 39)).alloc (Obj.cells #[int u64 x3,int u64 y3,.bool c3] 34):=⟨_,rfl⟩;have rE:Bk X 30 w.heap.size #[.slice (some ⟨g,0,none⟩) 1 cap,int u64 pc,int u64 ps]:=by rw [hX];exact((Bk.new _ _ _).alloc _).alloc _
  have rB:Bk X 39 (w.heap.size+1) #[int u64 x1,int u64 y1,.bool c1,int u64 x2,int u64 y2,.bool c2]:=by rw [hX];exact((Bk.new _ _ _).at (by simp)).alloc _
  have rP:Bk X 34 (w.heap.size+1+1) #[int u64 x3,int u64 y3,.bool c3]:=by rw [hX];exact(Bk.new _ _ _).at (by simp)
  have hb:Bl w X:=by rw [hX];exact(((Below.refl _ w).alloc (Nat.le_refl _) _).alloc (by simp) _).alloc (by simp;omega) _
  rw [hX] at rE rB rP hb;clear hX;go_enter func23,ntmps23;go_wp2_with fail;refine(T _).mono ?_;rintro e w' ⟨rfl,rfl⟩;clear T;have rEc0:=rE.cell (k:=0) rfl;have rEc1:=rE.cell (k:=1) rfl;have rEc2:=rE.cell (k:=2) rfl;have rBc0:=rB.cell (k:=0) rfl;have rBc1:=rB.cell (k:=1) rfl;have rBc2:=rB.cell (k:=2) rfl;have rBc3:=rB.cell (k:=3) rfl;have rBc4:=rB.cell (k:=4) rfl;have rBc5:=rB.cell (k:=5) rfl;have rPc0:=rP.cell (k:=0) rfl;have rPc1:=rP.cell (k:=1) rfl;have rPc2:=rP.cell (k:=2) rfl;go_wp2_with fail;refine(RD _ hb).mono ?_;rintro e w1 ⟨rfl,b1⟩;have hal:=balc w1 (Obj.cells #[int u64 x1,int u64 y1,.bool c1] 34);have rO:=Bk.new w1 34 #[int u64 x1,int u64 y1,.bool c1];replace rE:=rE.keep b1;replace rB:=rB.keep b1;replace rP:=rP.keep b1;replace hb:=hb.tr b1;clear RD b1 rEc0 rEc1 rEc2 rBc0 rBc1 rBc2 rBc3 rBc4 rBc5 rPc0 rPc1 rPc2;have rBc0:=rB.cell (k:=0) rfl;have rBc1:=rB.cell (k:=1) rfl;have rBc2:=rB.cell (k:=2) rfl;go_wp2;clear rBc0 rBc1 rBc2;replace rE:=rE.keep hal;replace rB:=rB.keep hal;replace rP:=rP.keep hal;replace hb:=hb.tr hal;clear hal;generalize w1.heap.size=H1 at*;generalize w1.alloc _=W1 at*;go_quiet (fail);replace rE:Bk (W1.drewN nq) _ _ _:=rE;replace rB:Bk (W1.drewN nq) _ _ _:=rB;replace rP:Bk (W1.drewN nq) _ _ _:=rP;replace rO:Bk (W1.drewN nq) _ _ _:=rO;replace hb:Bl w (W1.drewN nq):=⟨hb.os,hb.tape,hb.output,hb.size,hb.block⟩;generalize W1.drewN nq=W2 at*;go_wp2;go_quiet (fail);replace rE:Bk (W2.drewN nq) _ _ _:=rE;replace rB:Bk (W2.drewN nq) _ _ _:=rB;replace rP:Bk (W2.drewN nq) _ _ _:=rP;replace rO:Bk (W2.drewN nq) _ _ _:=rO;replace hb:Bl w (W2.drewN nq):=⟨hb.os,hb.tape,hb.output,hb.size,hb.block⟩;generalize W2.drewN nq=W3 at*;go_wp2;have m0:W3.drew.cell? ⟨w.heap.size,0,none⟩=_:=rE.cell (k:=0) rfl;have m1:W3.drew.cell? ⟨w.heap.size,1,none⟩=_:=rE.cell (k:=1) rfl;have m2:W3.drew.cell? ⟨w.heap.size,2,none⟩=_:=rE.cell (k:=2) rfl;have n0:W3.drew.cell? ⟨g,0,none⟩=_:=(hb.drew.cell (p:=⟨g,0,none⟩) (World.block_lt_of_cell? w _ h0)).trans h0;have n1:W3.drew.cell? ⟨g,1,none⟩=_:=(hb.drew.cell (p:=⟨g,1,none⟩) (World.block_lt_of_cell? w _ h1)).trans h1;have n2:W3.drew.cell? ⟨g,2,none⟩=_:=(hb.drew.cell (p:=⟨g,2,none⟩) (World.block_lt_of_cell? w _ h2)).trans h2
  refine G.pool_list (W:=W3) [] [.val (.int .i64 mode),
      .val (.string input),
      .val (.string info),
      .val (int u64 blind),
      .val (int u64 iv),
      .val (.pointer (some ⟨w.heap.size,0,none⟩)),
      .val (.slice (some ⟨g,0,none⟩) 1 cap),
      .val (.pointer (some ⟨g,0,none⟩)),
      .val (.agg #[int u64 xe,int u64 ye,.bool ce]),
      .val (.agg #[int u64 (px u),int u64 (py u),.bool (pb u)]),
      .val (.string R),
      .val (.string R),
      .val (.int .i64 0)] [[0],[1],[2],[3],[66],[11],[68],[69],[70],[67,71],[63,64,65,72],[73],[]] (fun f=> [(some 63,.int .i64 mode),(some 64,.string input),(some 65,.string info),(some 66,int u64 blind),(some 67,int u64 iv),(some 68,.pointer (some ⟨w.heap.size,0,none⟩)),(some 69,.slice (some ⟨g,0,none⟩) 1 cap),(some 70,.pointer (some ⟨g,0,none⟩)),(some 71,.agg #[int u64 xe,int u64 ye,.bool ce]),(some 72,.agg #[int u64 (px u),int u64 (py u),.bool (pb u)]),(some 73,.string R),(some 14,.string R),(some 15,.int .i64 0)]) (by kernel_rfl) (by kernel_rfl) (by kernel_rfl) (by kernel_rfl) (fun _=>by kernel_rfl) (G.last_of [] (fun F R hm=>by simp at hm) (fun ob ob' k hm=>by simp at hm) (fun b ob ob' hm=>by simp at hm)) (fun b ob ob' hm=>by simp at hm) ?_ ?_
  · intro ix hix
    match ix,hix with
    |0,_=>exact G.obv [(0,.int .i64 mode)] rfl rfl (fun A w ⟨e0,_⟩ hB=>doV_move e0)
    |1,_=>exact G.obv [(1,.string input)] rfl rfl (fun A w ⟨e0,_⟩ hB=>doV_move e0)
    |2,_=>exact G.obv [(2,.string info)] rfl rfl (fun A w ⟨e0,_⟩ hB=>doV_move e0)
    |3,_=>exact G.obv [(3,int u64 blind)] rfl rfl (fun A w ⟨e0,_⟩ hB=>doV_move e0)
    |4,_=>exact G.obv [(66,int u64 blind)] rfl rfl (fun A w ⟨e0,_⟩ hB=>cl2 cf_spec_InvMod e0 rfl (IV w))
    |5,_=>exact G.obv [(11,.pointer (some ⟨w.heap.size,0,none⟩))] rfl rfl (fun A w ⟨e0,_⟩ hB=>fa_evd0 e0)
    |6,_=>exact G.obv [(68,.pointer (some ⟨w.heap.size,0,none⟩))] rfl rfl (fun A w ⟨e0,_⟩ hB=>ld_ptsl e0 (hB.cell m0 (by simp)))
    |7,_=>exact G.obv [(69,.slice (some ⟨g,0,none⟩) 1 cap)] rfl rfl (fun A w ⟨e0,_⟩ hB=>ix_pts0 e0 rfl)
    |8,_=>exact G.obv [(70,.pointer (some ⟨g,0,none⟩))] rfl rfl (fun A w ⟨e0,_⟩ hB=>ld_pt e0 (hB.cell n0 (by simp)) (hB.cell n1 (by simp)) (hB.cell n2 (by simp)))
    |9,_=>exact G.obv [(67,int u64 iv),(71,.agg #[int u64 xe,int u64 ye,.bool ce])] rfl rfl (fun A w ⟨e0,e1,_⟩ hB=>cl2 cf_spec_Times e0 e1 (TM w))
    |10,_=>exact G.obv [(63,.int .i64 mode),(64,.string input),(65,.string info),(72,.agg #[int u64 (px u),int u64 (py u),.bool (pb u)])] rfl rfl (fun A w ⟨e0,e1,e2,e3,_⟩ hB=>cl4 cf_spec_l6Output e0 e1 e2 e3 (OU w))
    |11,_=>exact G.obv [(73,.string R)] rfl rfl (fun A w ⟨e0,_⟩ hB=>doV_assign e0)
    |12,_=>exact G.obv [] rfl rfl (fun A w _ hB=>doV_assign rfl)
    |ix+13,h=>exact absurd h (by simp)
  intro f W4 hS _ _ _ _;replace hb:=hb.drew.trans (hS.below.mono hb.size);clear hS m0 m1 m2 n0 n1 n2;simp only [puts,List.foldl,Act.put,List.setIfInBounds_toArray,List.set_cons_zero,List.set_cons_succ];go_wp2;go_ret2;exact⟨rfl,hb⟩
theorem fnS_1 (blind pc ps x1 y1 x2 y2 x3 y3 iv xe ye:Int)(c1 c2 c3 ce ok:Bool)(input info R:ByteArray)(g cap:Nat)(u:Pt)(w:World)
    (T:∀w,Calls prog 30 #[.int .i64 1,.string input,.string info] w fun e w'=>e= .returned (.bool true)∧w=w')
    (RD:(Cb w 56 #[.int .i64 1,int u64 blind,.agg #[.slice (some ⟨g,0,none⟩) 1 cap,int u64 pc,int u64 ps],.agg #[int u64 x1,int u64 y1,.bool c1,int u64 x2,int u64 y2,.bool c2],.agg #[int u64 x3,int u64 y3,.bool c3]] (.bool true)))
    (h0:w.cell? ⟨g,0,none⟩=some (int u64 xe))(h1:w.cell? ⟨g,1,none⟩=some (int u64 ye))(h2:w.cell? ⟨g,2,none⟩=some (.bool ce))
    (IV:(Cc 58 #[int u64 blind,int u64 2305843010818082053] (int u64 iv)))
    (TM:(Cc 15 #[int u64 iv,.agg #[int u64 xe,int u64 ye,.bool ce]] (.agg #[int u64 (px u),int u64 (py u),.bool (pb u)])))
    (OU:(Cc 51 #[.int .i64 1,.string input,.string info,.agg #[int u64 (px u),int u64 (py u),.bool (pb u)]] (.string R)))
    (CK:(∀w' h,Bl w w'→Bk w' 34 h #[int u64 x1,int u64 y1,.bool c1]→Cr 57 #[.int .i64 1,.agg #[int u64 (px gG),int u64 (py gG),.bool (pb gG)],.agg #[int u64 x3,int u64 y3,.bool c3],.slice (some ⟨h,0,none⟩) 1 1,.slice (some ⟨g,0,none⟩) 1 cap,.agg #[int u64 pc,int u64 ps]] w' (.bool ok))):
    Cr 23 #[.int .i64 1,.string input,.string info,int u64 blind,.agg #[.slice (some ⟨g,0,none⟩) 1 cap,int u64 pc,int u64 ps],.agg #[int u64 x1,int u64 y1,.bool c1,int u64 x2,int u64 y2,.bool c2],.agg #[int u64 x3,int u64 y3,.bool c3]] w (if ok=true then .tuple #[.string R,.int .i64 0] else .tuple #[.string ⟨#[]⟩,.int .i64 4]):=by
  obtain⟨X,hX⟩:∃X,X=((w.alloc (Obj.cells #[.slice (some ⟨g,0,none⟩) 1 cap,int u64 pc,int u64 ps] 30)).alloc (Obj.cells #[int u64 x1,int u64 y1,.bool c1,int u64 x2,int u64 y2,.bool c2] 39)).alloc (Obj.cells #[int u64 x3,int u64 y3,.bool c3] 34):=⟨_,rfl⟩;have rE:Bk X 30 w.heap.size #[.slice (some ⟨g,0,none⟩) 1 cap,int u64 pc,int u64 ps]:=by rw [hX];exact((Bk.new _ _ _).alloc _).alloc _
  have rB:Bk X 39 (w.heap.size+1) #[int u64 x1,int u64 y1,.bool c1,int u64 x2,int u64 y2,.bool c2]:=by rw [hX];exact((Bk.new _ _ _).at (by simp)).alloc _
  have rP:Bk X 34 (w.heap.size+1+1) #[int u64 x3,int u64 y3,.bool c3]:=by rw [hX];exact(Bk.new _ _ _).at (by simp)
  have hb:Bl w X:=by rw [hX];exact(((Below.refl _ w).alloc (Nat.le_refl _) _).alloc (by simp) _).alloc (by simp;omega) _
  rw [hX] at rE rB rP hb;clear hX;go_enter func23,ntmps23;go_wp2_with fail;refine(T _).mono ?_;rintro e w' ⟨rfl,rfl⟩;clear T;have rEc0:=rE.cell (k:=0) rfl;have rEc1:=rE.cell (k:=1) rfl;have rEc2:=rE.cell (k:=2) rfl;have rBc0:=rB.cell (k:=0) rfl;have rBc1:=rB.cell (k:=1) rfl;have rBc2:=rB.cell (k:=2) rfl;have rBc3:=rB.cell (k:=3) rfl;have rBc4:=rB.cell (k:=4) rfl;have rBc5:=rB.cell (k:=5) rfl;have rPc0:=rP.cell (k:=0) rfl;have rPc1:=rP.cell (k:=1) rfl;have rPc2:=rP.cell (k:=2) rfl;go_wp2_with fail;refine(RD _ hb).mono ?_;rintro e w1 ⟨rfl,b1⟩;have hal:=balc w1 (Obj.cells #[int u64 x1,int u64 y1,.bool c1] 34);have rO:=Bk.new w1 34 #[int u64 x1,int u64 y1,.bool c1];replace rE:=rE.keep b1;replace rB:=rB.keep b1;replace rP:=rP.keep b1;replace hb:=hb.tr b1;clear RD b1 rEc0 rEc1 rEc2 rBc0 rBc1 rBc2 rBc3 rBc4 rBc5 rPc0 rPc1 rPc2;have rBc0:=rB.cell (k:=0) rfl;have rBc1:=rB.cell (k:=1) rfl;have rBc2:=rB.cell (k:=2) rfl;go_wp2;clear rBc0 rBc1 rBc2;replace rE:=rE.keep hal;replace rB:=rB.keep hal;replace rP:=rP.keep hal;replace hb:=hb.tr hal;clear hal;generalize w1.heap.size=H1 at*;generalize w1.alloc _=W1 at*;have q0:W1.drew.cell? ⟨w.heap.size+1+1,0,none⟩=_:=rP.cell (k:=0) rfl;have q1:W1.drew.cell? ⟨w.heap.size+1+1,1,none⟩=_:=rP.cell (k:=1) rfl;have q2:W1.drew.cell? ⟨w.heap.size+1+1,2,none⟩=_:=rP.cell (k:=2) rfl;have m0:W1.drew.cell? ⟨w.heap.size,0,none⟩=_:=rE.cell (k:=0) rfl;have m1:W1.drew.cell? ⟨w.heap.size,1,none⟩=_:=rE.cell (k:=1) rfl;have m2:W1.drew.cell? ⟨w.heap.size,2,none⟩=_:=rE.cell (k:=2) rfl;have CK':∀w',G.Sides [] W1.drew w'→_:=fun w' h=>CK w' H1 (hb.drew.trans (h.below.mono hb.size)) (rO.drew.keep h.below)
  refine G.pool_list (W:=W1) [] [.val (.int .i64 1),
      .val (.bool true),
      .val (.bool true),
      .val (.int .i64 1),
      .val (.agg #[int u64 (px gG),int u64 (py gG),.bool (pb gG)]),
      .val (.agg #[int u64 x3,int u64 y3,.bool c3]),
      .val (.slice (some ⟨H1,0,none⟩) 1 1),
      .val (.pointer (some ⟨w.heap.size,0,none⟩)),
      .val (.slice (some ⟨g,0,none⟩) 1 cap),
      .val (.pointer (some ⟨w.heap.size,1,none⟩)),
      .val (.agg #[int u64 pc,int u64 ps]),
      .val (.bool ok),
      .val (.bool (!ok)),
      .val (.bool (!ok))] [[0],[34],[35],[0],[],[13],[16],[11],[41],[11],[43],[37,38,39,40,42,44],[45],[36,46]] (fun f=> [(some 34,.int .i64 1),(some 35,.bool true),(some 36,.bool true),(some 37,.int .i64 1),(some 38,.agg #[int u64 (px gG),int u64 (py gG),.bool (pb gG)]),(some 39,.agg #[int u64 x3,int u64 y3,.bool c3]),(some 40,.slice (some ⟨H1,0,none⟩) 1 1),(some 41,.pointer (some ⟨w.heap.size,0,none⟩)),(some 42,.slice (some ⟨g,0,none⟩) 1 cap),(some 43,.pointer (some ⟨w.heap.size,1,none⟩)),(some 44,.agg #[int u64 pc,int u64 ps]),(some 45,.bool ok),(some 46,.bool (!ok)),(some 47,.bool (!ok))]) (by kernel_rfl) (by kernel_rfl) (by kernel_rfl) (by kernel_rfl) (fun _=>by kernel_rfl) (G.last_of [] (fun F R hm=>by simp at hm) (fun ob ob' k hm=>by simp at hm) (fun b ob ob' hm=>by simp at hm)) (fun b ob ob' hm=>by simp at hm) ?_ ?_
  · intro ix hix
    match ix,hix with
    |0,_=>exact G.obv [(0,.int .i64 1)] rfl rfl (fun A w ⟨e0,_⟩ hB=>doV_move e0)
    |1,_=>exact G.obv [(34,.int .i64 1)] rfl rfl (fun A w ⟨e0,_⟩ hB=>eq_intT e0 rfl)
    |2,_=>exact G.obv [(35,.bool true)] rfl rfl (fun A w ⟨e0,_⟩ hB=>doV_move e0)
    |3,_=>exact G.obv [(0,.int .i64 1)] rfl rfl (fun A w ⟨e0,_⟩ hB=>doV_move e0)
    |4,_=>exact G.obv [] rfl rfl (fun A w _ hB=>cl0 cf_spec_Base (bsG w))
    |5,_=>exact G.obv [(13,.pointer (some ⟨w.heap.size+1+1,0,none⟩))] rfl rfl (fun A w ⟨e0,_⟩ hB=>ld_pt e0 (hB.cell q0 (by simp)) (hB.cell q1 (by simp)) (hB.cell q2 (by simp)))
    |6,_=>exact G.obv [(16,.slice (some ⟨H1,0,none⟩) 1 1)] rfl rfl (fun A w ⟨e0,_⟩ hB=>doV_move e0)
    |7,_=>exact G.obv [(11,.pointer (some ⟨w.heap.size,0,none⟩))] rfl rfl (fun A w ⟨e0,_⟩ hB=>fa_evd0 e0)
    |8,_=>exact G.obv [(41,.pointer (some ⟨w.heap.size,0,none⟩))] rfl rfl (fun A w ⟨e0,_⟩ hB=>ld_ptsl e0 (hB.cell m0 (by simp)))
    |9,_=>exact G.obv [(11,.pointer (some ⟨w.heap.size,0,none⟩))] rfl rfl (fun A w ⟨e0,_⟩ hB=>fa_evd1 e0)
    |10,_=>exact G.obv [(43,.pointer (some ⟨w.heap.size,1,none⟩))] rfl rfl (fun A w ⟨e0,_⟩ hB=>ld_prf e0 (hB.cell m1 (by simp)) (hB.cell m2 (by simp)))
    |11,_=>exact G.obv [(37,.int .i64 1),(38,.agg #[int u64 (px gG),int u64 (py gG),.bool (pb gG)]),(39,.agg #[int u64 x3,int u64 y3,.bool c3]),(40,.slice (some ⟨H1,0,none⟩) 1 1),(42,.slice (some ⟨g,0,none⟩) 1 cap),(44,.agg #[int u64 pc,int u64 ps])] rfl rfl (fun A w ⟨e0,e1,e2,e3,e4,e5,_⟩ hB=>cl6 cf_spec_Check e0 e1 e2 e3 e4 e5 (CK' w hB))
    |12,_=>exact G.obv [(45,.bool ok)] rfl rfl (fun A w ⟨e0,_⟩ hB=>not_b e0)
    |13,_=>exact G.obv [(36,.bool true),(46,.bool (!ok))] rfl rfl (fun A w ⟨e0,e1,_⟩ hB=>Z.pkT e0 e1)
    |ix+14,h=>exact absurd h (by simp)
  intro f W2 hS _ _ _ _;have hb3:Bl W1 W2:=(Below.refl _ W1).drew.trans hS.below;replace rE:=rE.keep hb3;replace rB:=rB.keep hb3;replace rP:=rP.keep hb3;replace rO:=rO.keep hb3;replace hb:=hb.tr hb3;clear hS hb3 CK CK' q0 q1 q2 m0 m1 m2;simp only [puts,List.foldl,Act.put,List.setIfInBounds_toArray,List.set_cons_zero,List.set_cons_succ]
  cases ok with
  | false=>
    go_wp2;go_ret2;exact⟨rfl,hb⟩
  |true=>
  go_wp2;go_quiet (fail);replace rE:Bk (W2.drewN nq) _ _ _:=rE;replace rB:Bk (W2.drewN nq) _ _ _:=rB;replace rP:Bk (W2.drewN nq) _ _ _:=rP;replace rO:Bk (W2.drewN nq) _ _ _:=rO;replace hb:Bl w (W2.drewN nq):=⟨hb.os,hb.tape,hb.output,hb.size,hb.block⟩;generalize W2.drewN nq=W3 at*;go_wp2;have m0:W3.drew.cell? ⟨w.heap.size,0,none⟩=_:=rE.cell (k:=0) rfl;have m1:W3.drew.cell? ⟨w.heap.size,1,none⟩=_:=rE.cell (k:=1) rfl;have m2:W3.drew.cell? ⟨w.heap.size,2,none⟩=_:=rE.cell (k:=2) rfl;have n0:W3.drew.cell? ⟨g,0,none⟩=_:=(hb.drew.cell (p:=⟨g,0,none⟩) (World.block_lt_of_cell? w _ h0)).trans h0;have n1:W3.drew.cell? ⟨g,1,none⟩=_:=(hb.drew.cell (p:=⟨g,1,none⟩) (World.block_lt_of_cell? w _ h1)).trans h1;have n2:W3.drew.cell? ⟨g,2,none⟩=_:=(hb.drew.cell (p:=⟨g,2,none⟩) (World.block_lt_of_cell? w _ h2)).trans h2
  refine G.pool_list (W:=W3) [] [.val (.int .i64 1),
      .val (.string input),
      .val (.string info),
      .val (int u64 blind),
      .val (int u64 iv),
      .val (.pointer (some ⟨w.heap.size,0,none⟩)),
      .val (.slice (some ⟨g,0,none⟩) 1 cap),
      .val (.pointer (some ⟨g,0,none⟩)),
      .val (.agg #[int u64 xe,int u64 ye,.bool ce]),
      .val (.agg #[int u64 (px u),int u64 (py u),.bool (pb u)]),
      .val (.string R),
      .val (.string R),
      .val (.int .i64 0)] [[0],[1],[2],[3],[66],[11],[68],[69],[70],[67,71],[63,64,65,72],[73],[]] (fun f=> [(some 63,.int .i64 1),(some 64,.string input),(some 65,.string info),(some 66,int u64 blind),(some 67,int u64 iv),(some 68,.pointer (some ⟨w.heap.size,0,none⟩)),(some 69,.slice (some ⟨g,0,none⟩) 1 cap),(some 70,.pointer (some ⟨g,0,none⟩)),(some 71,.agg #[int u64 xe,int u64 ye,.bool ce]),(some 72,.agg #[int u64 (px u),int u64 (py u),.bool (pb u)]),(some 73,.string R),(some 14,.string R),(some 15,.int .i64 0)]) (by kernel_rfl) (by kernel_rfl) (by kernel_rfl) (by kernel_rfl) (fun _=>by kernel_rfl) (G.last_of [] (fun F R hm=>by simp at hm) (fun ob ob' k hm=>by simp at hm) (fun b ob ob' hm=>by simp at hm)) (fun b ob ob' hm=>by simp at hm) ?_ ?_
  · intro ix hix
    match ix,hix with
    |0,_=>exact G.obv [(0,.int .i64 1)] rfl rfl (fun A w ⟨e0,_⟩ hB=>doV_move e0)
    |1,_=>exact G.obv [(1,.string input)] rfl rfl (fun A w ⟨e0,_⟩ hB=>doV_move e0)
    |2,_=>exact G.obv [(2,.string info)] rfl rfl (fun A w ⟨e0,_⟩ hB=>doV_move e0)
    |3,_=>exact G.obv [(3,int u64 blind)] rfl rfl (fun A w ⟨e0,_⟩ hB=>doV_move e0)
    |4,_=>exact G.obv [(66,int u64 blind)] rfl rfl (fun A w ⟨e0,_⟩ hB=>cl2 cf_spec_InvMod e0 rfl (IV w))
    |5,_=>exact G.obv [(11,.pointer (some ⟨w.heap.size,0,none⟩))] rfl rfl (fun A w ⟨e0,_⟩ hB=>fa_evd0 e0)
    |6,_=>exact G.obv [(68,.pointer (some ⟨w.heap.size,0,none⟩))] rfl rfl (fun A w ⟨e0,_⟩ hB=>ld_ptsl e0 (hB.cell m0 (by simp)))
    |7,_=>exact G.obv [(69,.slice (some ⟨g,0,none⟩) 1 cap)] rfl rfl (fun A w ⟨e0,_⟩ hB=>ix_pts0 e0 rfl)
    |8,_=>exact G.obv [(70,.pointer (some ⟨g,0,none⟩))] rfl rfl (fun A w ⟨e0,_⟩ hB=>ld_pt e0 (hB.cell n0 (by simp)) (hB.cell n1 (by simp)) (hB.cell n2 (by simp)))
    |9,_=>exact G.obv [(67,int u64 iv),(71,.agg #[int u64 xe,int u64 ye,.bool ce])] rfl rfl (fun A w ⟨e0,e1,_⟩ hB=>cl2 cf_spec_Times e0 e1 (TM w))
    |10,_=>exact G.obv [(63,.int .i64 1),(64,.string input),(65,.string info),(72,.agg #[int u64 (px u),int u64 (py u),.bool (pb u)])] rfl rfl (fun A w ⟨e0,e1,e2,e3,_⟩ hB=>cl4 cf_spec_l6Output e0 e1 e2 e3 (OU w))
    |11,_=>exact G.obv [(73,.string R)] rfl rfl (fun A w ⟨e0,_⟩ hB=>doV_assign e0)
    |12,_=>exact G.obv [] rfl rfl (fun A w _ hB=>doV_assign rfl)
    |ix+13,h=>exact absurd h (by simp)
  intro f W4 hS _ _ _ _;replace hb:=hb.drew.trans (hS.below.mono hb.size);clear hS m0 m1 m2 n0 n1 n2;simp only [puts,List.foldl,Act.put,List.setIfInBounds_toArray,List.set_cons_zero,List.set_cons_succ];go_wp2;go_ret2;exact⟨rfl,hb⟩
theorem fnS_2 (blind pc ps x1 y1 x2 y2 x3 y3 iv xe ye:Int)(c1 c2 c3 ce ok:Bool)(input info R:ByteArray)(g cap:Nat)(u:Pt)(w:World)
    (T:∀w,Calls prog 30 #[.int .i64 2,.string input,.string info] w fun e w'=>e= .returned (.bool true)∧w=w')
    (RD:(Cb w 56 #[.int .i64 2,int u64 blind,.agg #[.slice (some ⟨g,0,none⟩) 1 cap,int u64 pc,int u64 ps],.agg #[int u64 x1,int u64 y1,.bool c1,int u64 x2,int u64 y2,.bool c2],.agg #[int u64 x3,int u64 y3,.bool c3]] (.bool true)))
    (h0:w.cell? ⟨g,0,none⟩=some (int u64 xe))(h1:w.cell? ⟨g,1,none⟩=some (int u64 ye))(h2:w.cell? ⟨g,2,none⟩=some (.bool ce))
    (IV:(Cc 58 #[int u64 blind,int u64 2305843010818082053] (int u64 iv)))
    (TM:(Cc 15 #[int u64 iv,.agg #[int u64 xe,int u64 ye,.bool ce]] (.agg #[int u64 (px u),int u64 (py u),.bool (pb u)])))
    (OU:(Cc 51 #[.int .i64 2,.string input,.string info,.agg #[int u64 (px u),int u64 (py u),.bool (pb u)]] (.string R)))
    (CK:(∀w' h,Bl w w'→Bk w' 34 h #[int u64 x1,int u64 y1,.bool c1]→Cr 57 #[.int .i64 2,.agg #[int u64 (px gG),int u64 (py gG),.bool (pb gG)],.agg #[int u64 x2,int u64 y2,.bool c2],.slice (some ⟨g,0,none⟩) 1 cap,.slice (some ⟨h,0,none⟩) 1 1,.agg #[int u64 pc,int u64 ps]] w' (.bool ok))):
    Cr 23 #[.int .i64 2,.string input,.string info,int u64 blind,.agg #[.slice (some ⟨g,0,none⟩) 1 cap,int u64 pc,int u64 ps],.agg #[int u64 x1,int u64 y1,.bool c1,int u64 x2,int u64 y2,.bool c2],.agg #[int u64 x3,int u64 y3,.bool c3]] w (if ok=true then .tuple #[.string R,.int .i64 0] else .tuple #[.string ⟨#[]⟩,.int .i64 4]):=by
  obtain⟨X,hX⟩:∃X,X=((w.alloc (Obj.cells #[.slice (some ⟨g,0,none⟩) 1 cap,int u64 pc,int u64 ps] 30)).alloc (Obj.cells #[int u64 x1,int u64 y1,.bool c1,int u64 x2,int u64 y2,.bool c2] 39)).alloc (Obj.cells #[int u64 x3,int u64 y3,.bool c3] 34):=⟨_,rfl⟩;have rE:Bk X 30 w.heap.size #[.slice (some ⟨g,0,none⟩) 1 cap,int u64 pc,int u64 ps]:=by rw [hX];exact((Bk.new _ _ _).alloc _).alloc _
  have rB:Bk X 39 (w.heap.size+1) #[int u64 x1,int u64 y1,.bool c1,int u64 x2,int u64 y2,.bool c2]:=by rw [hX];exact((Bk.new _ _ _).at (by simp)).alloc _
  have rP:Bk X 34 (w.heap.size+1+1) #[int u64 x3,int u64 y3,.bool c3]:=by rw [hX];exact(Bk.new _ _ _).at (by simp)
  have hb:Bl w X:=by rw [hX];exact(((Below.refl _ w).alloc (Nat.le_refl _) _).alloc (by simp) _).alloc (by simp;omega) _
  rw [hX] at rE rB rP hb;clear hX;go_enter func23,ntmps23;go_wp2_with fail;refine(T _).mono ?_;rintro e w' ⟨rfl,rfl⟩;clear T;have rEc0:=rE.cell (k:=0) rfl;have rEc1:=rE.cell (k:=1) rfl;have rEc2:=rE.cell (k:=2) rfl;have rBc0:=rB.cell (k:=0) rfl;have rBc1:=rB.cell (k:=1) rfl;have rBc2:=rB.cell (k:=2) rfl;have rBc3:=rB.cell (k:=3) rfl;have rBc4:=rB.cell (k:=4) rfl;have rBc5:=rB.cell (k:=5) rfl;have rPc0:=rP.cell (k:=0) rfl;have rPc1:=rP.cell (k:=1) rfl;have rPc2:=rP.cell (k:=2) rfl;go_wp2_with fail;refine(RD _ hb).mono ?_;rintro e w1 ⟨rfl,b1⟩;have hal:=balc w1 (Obj.cells #[int u64 x1,int u64 y1,.bool c1] 34);have rO:=Bk.new w1 34 #[int u64 x1,int u64 y1,.bool c1];replace rE:=rE.keep b1;replace rB:=rB.keep b1;replace rP:=rP.keep b1;replace hb:=hb.tr b1;clear RD b1 rEc0 rEc1 rEc2 rBc0 rBc1 rBc2 rBc3 rBc4 rBc5 rPc0 rPc1 rPc2;have rBc0:=rB.cell (k:=0) rfl;have rBc1:=rB.cell (k:=1) rfl;have rBc2:=rB.cell (k:=2) rfl;go_wp2;clear rBc0 rBc1 rBc2;replace rE:=rE.keep hal;replace rB:=rB.keep hal;replace rP:=rP.keep hal;replace hb:=hb.tr hal;clear hal;generalize w1.heap.size=H1 at*;generalize w1.alloc _=W1 at*;go_quiet (fail);replace rE:Bk (W1.drewN nq) _ _ _:=rE;replace rB:Bk (W1.drewN nq) _ _ _:=rB;replace rP:Bk (W1.drewN nq) _ _ _:=rP;replace rO:Bk (W1.drewN nq) _ _ _:=rO;replace hb:Bl w (W1.drewN nq):=⟨hb.os,hb.tape,hb.output,hb.size,hb.block⟩;generalize W1.drewN nq=W2 at*;go_wp2;have q0:W2.drew.cell? ⟨w.heap.size+1,3,none⟩=_:=rB.cell (k:=3) rfl;have q1:W2.drew.cell? ⟨w.heap.size+1,4,none⟩=_:=rB.cell (k:=4) rfl;have q2:W2.drew.cell? ⟨w.heap.size+1,5,none⟩=_:=rB.cell (k:=5) rfl;have m0:W2.drew.cell? ⟨w.heap.size,0,none⟩=_:=rE.cell (k:=0) rfl;have m1:W2.drew.cell? ⟨w.heap.size,1,none⟩=_:=rE.cell (k:=1) rfl;have m2:W2.drew.cell? ⟨w.heap.size,2,none⟩=_:=rE.cell (k:=2) rfl;have CK':∀w',G.Sides [] W2.drew w'→_:=fun w' h=>CK w' H1 (hb.drew.trans (h.below.mono hb.size)) (rO.drew.keep h.below)
  refine G.pool_list (W:=W2) [] [.val (.int .i64 2),
      .val (.bool true),
      .val (.bool true),
      .val (.int .i64 2),
      .val (.agg #[int u64 (px gG),int u64 (py gG),.bool (pb gG)]),
      .val (.pointer (some ⟨w.heap.size+1,3,none⟩)),
      .val (.agg #[int u64 x2,int u64 y2,.bool c2]),
      .val (.pointer (some ⟨w.heap.size,0,none⟩)),
      .val (.slice (some ⟨g,0,none⟩) 1 cap),
      .val (.slice (some ⟨H1,0,none⟩) 1 1),
      .val (.pointer (some ⟨w.heap.size,1,none⟩)),
      .val (.agg #[int u64 pc,int u64 ps]),
      .val (.bool ok),
      .val (.bool (!ok)),
      .val (.bool (!ok))] [[0],[48],[49],[0],[],[12],[53],[11],[55],[16],[11],[58],[51,52,54,56,57,59],[60],[50,61]] (fun f=> [(some 48,.int .i64 2),(some 49,.bool true),(some 50,.bool true),(some 51,.int .i64 2),(some 52,.agg #[int u64 (px gG),int u64 (py gG),.bool (pb gG)]),(some 53,.pointer (some ⟨w.heap.size+1,3,none⟩)),(some 54,.agg #[int u64 x2,int u64 y2,.bool c2]),(some 55,.pointer (some ⟨w.heap.size,0,none⟩)),(some 56,.slice (some ⟨g,0,none⟩) 1 cap),(some 57,.slice (some ⟨H1,0,none⟩) 1 1),(some 58,.pointer (some ⟨w.heap.size,1,none⟩)),(some 59,.agg #[int u64 pc,int u64 ps]),(some 60,.bool ok),(some 61,.bool (!ok)),(some 62,.bool (!ok))]) (by kernel_rfl) (by kernel_rfl) (by kernel_rfl) (by kernel_rfl) (fun _=>by kernel_rfl) (G.last_of [] (fun F R hm=>by simp at hm) (fun ob ob' k hm=>by simp at hm) (fun b ob ob' hm=>by simp at hm)) (fun b ob ob' hm=>by simp at hm) ?_ ?_
  · intro ix hix
    match ix,hix with
    |0,_=>exact G.obv [(0,.int .i64 2)] rfl rfl (fun A w ⟨e0,_⟩ hB=>doV_move e0)
    |1,_=>exact G.obv [(48,.int .i64 2)] rfl rfl (fun A w ⟨e0,_⟩ hB=>eq_intT e0 rfl)
    |2,_=>exact G.obv [(49,.bool true)] rfl rfl (fun A w ⟨e0,_⟩ hB=>doV_move e0)
    |3,_=>exact G.obv [(0,.int .i64 2)] rfl rfl (fun A w ⟨e0,_⟩ hB=>doV_move e0)
    |4,_=>exact G.obv [] rfl rfl (fun A w _ hB=>cl0 cf_spec_Base (bsG w))
    |5,_=>exact G.obv [(12,.pointer (some ⟨w.heap.size+1,0,none⟩))] rfl rfl (fun A w ⟨e0,_⟩ hB=>fa_bld1 e0)
    |6,_=>exact G.obv [(53,.pointer (some ⟨w.heap.size+1,3,none⟩))] rfl rfl (fun A w ⟨e0,_⟩ hB=>ld_pt e0 (hB.cell q0 (by simp)) (hB.cell q1 (by simp)) (hB.cell q2 (by simp)))
    |7,_=>exact G.obv [(11,.pointer (some ⟨w.heap.size,0,none⟩))] rfl rfl (fun A w ⟨e0,_⟩ hB=>fa_evd0 e0)
    |8,_=>exact G.obv [(55,.pointer (some ⟨w.heap.size,0,none⟩))] rfl rfl (fun A w ⟨e0,_⟩ hB=>ld_ptsl e0 (hB.cell m0 (by simp)))
    |9,_=>exact G.obv [(16,.slice (some ⟨H1,0,none⟩) 1 1)] rfl rfl (fun A w ⟨e0,_⟩ hB=>doV_move e0)
    |10,_=>exact G.obv [(11,.pointer (some ⟨w.heap.size,0,none⟩))] rfl rfl (fun A w ⟨e0,_⟩ hB=>fa_evd1 e0)
    |11,_=>exact G.obv [(58,.pointer (some ⟨w.heap.size,1,none⟩))] rfl rfl (fun A w ⟨e0,_⟩ hB=>ld_prf e0 (hB.cell m1 (by simp)) (hB.cell m2 (by simp)))
    |12,_=>exact G.obv [(51,.int .i64 2),(52,.agg #[int u64 (px gG),int u64 (py gG),.bool (pb gG)]),(54,.agg #[int u64 x2,int u64 y2,.bool c2]),(56,.slice (some ⟨g,0,none⟩) 1 cap),(57,.slice (some ⟨H1,0,none⟩) 1 1),(59,.agg #[int u64 pc,int u64 ps])] rfl rfl (fun A w ⟨e0,e1,e2,e3,e4,e5,_⟩ hB=>cl6 cf_spec_Check e0 e1 e2 e3 e4 e5 (CK' w hB))
    |13,_=>exact G.obv [(60,.bool ok)] rfl rfl (fun A w ⟨e0,_⟩ hB=>not_b e0)
    |14,_=>exact G.obv [(50,.bool true),(61,.bool (!ok))] rfl rfl (fun A w ⟨e0,e1,_⟩ hB=>Z.pkT e0 e1)
    |ix+15,h=>exact absurd h (by simp)
  intro f W3 hS _ _ _ _;have hb3:Bl W2 W3:=(Below.refl _ W2).drew.trans hS.below;replace rE:=rE.keep hb3;replace rB:=rB.keep hb3;replace rP:=rP.keep hb3;replace rO:=rO.keep hb3;replace hb:=hb.tr hb3;clear hS hb3 CK CK' q0 q1 q2 m0 m1 m2;simp only [puts,List.foldl,Act.put,List.setIfInBounds_toArray,List.set_cons_zero,List.set_cons_succ]
  cases ok with
  | false=>
    go_wp2;go_ret2;exact⟨rfl,hb⟩
  |true=>
  go_wp2;have m0:W3.drew.cell? ⟨w.heap.size,0,none⟩=_:=rE.cell (k:=0) rfl;have m1:W3.drew.cell? ⟨w.heap.size,1,none⟩=_:=rE.cell (k:=1) rfl;have m2:W3.drew.cell? ⟨w.heap.size,2,none⟩=_:=rE.cell (k:=2) rfl;have n0:W3.drew.cell? ⟨g,0,none⟩=_:=(hb.drew.cell (p:=⟨g,0,none⟩) (World.block_lt_of_cell? w _ h0)).trans h0;have n1:W3.drew.cell? ⟨g,1,none⟩=_:=(hb.drew.cell (p:=⟨g,1,none⟩) (World.block_lt_of_cell? w _ h1)).trans h1;have n2:W3.drew.cell? ⟨g,2,none⟩=_:=(hb.drew.cell (p:=⟨g,2,none⟩) (World.block_lt_of_cell? w _ h2)).trans h2
  refine G.pool_list (W:=W3) [] [.val (.int .i64 2),
      .val (.string input),
      .val (.string info),
      .val (int u64 blind),
      .val (int u64 iv),
      .val (.pointer (some ⟨w.heap.size,0,none⟩)),
      .val (.slice (some ⟨g,0,none⟩) 1 cap),
      .val (.pointer (some ⟨g,0,none⟩)),
      .val (.agg #[int u64 xe,int u64 ye,.bool ce]),
      .val (.agg #[int u64 (px u),int u64 (py u),.bool (pb u)]),
      .val (.string R),
      .val (.string R),
      .val (.int .i64 0)] [[0],[1],[2],[3],[66],[11],[68],[69],[70],[67,71],[63,64,65,72],[73],[]] (fun f=> [(some 63,.int .i64 2),(some 64,.string input),(some 65,.string info),(some 66,int u64 blind),(some 67,int u64 iv),(some 68,.pointer (some ⟨w.heap.size,0,none⟩)),(some 69,.slice (some ⟨g,0,none⟩) 1 cap),(some 70,.pointer (some ⟨g,0,none⟩)),(some 71,.agg #[int u64 xe,int u64 ye,.bool ce]),(some 72,.agg #[int u64 (px u),int u64 (py u),.bool (pb u)]),(some 73,.string R),(some 14,.string R),(some 15,.int .i64 0)]) (by kernel_rfl) (by kernel_rfl) (by kernel_rfl) (by kernel_rfl) (fun _=>by kernel_rfl) (G.last_of [] (fun F R hm=>by simp at hm) (fun ob ob' k hm=>by simp at hm) (fun b ob ob' hm=>by simp at hm)) (fun b ob ob' hm=>by simp at hm) ?_ ?_
  · intro ix hix
    match ix,hix with
    |0,_=>exact G.obv [(0,.int .i64 2)] rfl rfl (fun A w ⟨e0,_⟩ hB=>doV_move e0)
    |1,_=>exact G.obv [(1,.string input)] rfl rfl (fun A w ⟨e0,_⟩ hB=>doV_move e0)
    |2,_=>exact G.obv [(2,.string info)] rfl rfl (fun A w ⟨e0,_⟩ hB=>doV_move e0)
    |3,_=>exact G.obv [(3,int u64 blind)] rfl rfl (fun A w ⟨e0,_⟩ hB=>doV_move e0)
    |4,_=>exact G.obv [(66,int u64 blind)] rfl rfl (fun A w ⟨e0,_⟩ hB=>cl2 cf_spec_InvMod e0 rfl (IV w))
    |5,_=>exact G.obv [(11,.pointer (some ⟨w.heap.size,0,none⟩))] rfl rfl (fun A w ⟨e0,_⟩ hB=>fa_evd0 e0)
    |6,_=>exact G.obv [(68,.pointer (some ⟨w.heap.size,0,none⟩))] rfl rfl (fun A w ⟨e0,_⟩ hB=>ld_ptsl e0 (hB.cell m0 (by simp)))
    |7,_=>exact G.obv [(69,.slice (some ⟨g,0,none⟩) 1 cap)] rfl rfl (fun A w ⟨e0,_⟩ hB=>ix_pts0 e0 rfl)
    |8,_=>exact G.obv [(70,.pointer (some ⟨g,0,none⟩))] rfl rfl (fun A w ⟨e0,_⟩ hB=>ld_pt e0 (hB.cell n0 (by simp)) (hB.cell n1 (by simp)) (hB.cell n2 (by simp)))
    |9,_=>exact G.obv [(67,int u64 iv),(71,.agg #[int u64 xe,int u64 ye,.bool ce])] rfl rfl (fun A w ⟨e0,e1,_⟩ hB=>cl2 cf_spec_Times e0 e1 (TM w))
    |10,_=>exact G.obv [(63,.int .i64 2),(64,.string input),(65,.string info),(72,.agg #[int u64 (px u),int u64 (py u),.bool (pb u)])] rfl rfl (fun A w ⟨e0,e1,e2,e3,_⟩ hB=>cl4 cf_spec_l6Output e0 e1 e2 e3 (OU w))
    |11,_=>exact G.obv [(73,.string R)] rfl rfl (fun A w ⟨e0,_⟩ hB=>doV_assign e0)
    |12,_=>exact G.obv [] rfl rfl (fun A w _ hB=>doV_assign rfl)
    |ix+13,h=>exact absurd h (by simp)
  intro f W4 hS _ _ _ _;replace hb:=hb.drew.trans (hS.below.mono hb.size);clear hS m0 m1 m2 n0 n1 n2;simp only [puts,List.foldl,Act.put,List.setIfInBounds_toArray,List.set_cons_zero,List.set_cons_succ];go_wp2;go_ret2;exact⟨rfl,hb⟩
abbrev finQ (mode:Int)(input info:ByteArray)(blind:Nat)(es:List Tri)(pc ps:Nat)(t1 t2 tp:Tri)(q:Option Addr)(cap:Nat):Array Value:=#[.int .i64 mode,.string input,.string info,int u64 blind,.agg #[.slice q es.length cap,int u64 pc,int u64 ps],.agg #[int u64 (t1.1:Int),int u64 (t1.2.1:Int),.bool t1.2.2,int u64 (t2.1:Int),int u64 (t2.2.1:Int),.bool t2.2.2],.agg #[int u64 (tp.1:Int),int u64 (tp.2.1:Int),.bool tp.2.2]]
def PtQ (w:World)(q:Option Addr)(es:List Tri):Prop:=es= []∨∃g,q=some ⟨g,0,none⟩∧Pts w g 0 es
theorem PtQ.keep {w w':World}{q:Option Addr}{es:List Tri}(h:PtQ w q es)(hb:Bl w w'):PtQ w' q es:=h.imp id fun⟨g,e,p⟩=>⟨g,e,p.below hb p.lt⟩
theorem PtQ.one {w:World}{q:Option Addr}{t:Tri}(h:PtQ w q [t]):∃g,q=some ⟨g,0,none⟩∧Pts w g 0 [t]:=h.elim (fun h=>absurd h (by simp)) id
theorem pts_one {W:World}{g o:Nat}{t:Tri}(h:Pts W g o [t]):W.cell? ⟨g,o,none⟩=some (int u64 (t.1:Int))∧W.cell? ⟨g,o+1,none⟩=some (int u64 (t.2.1:Int))∧W.cell? ⟨g,o+2,none⟩=some (.bool t.2.2):=by
  have e0:=h.c0 0 t rfl;have e1:=h.c1 0 t rfl;have e2:=h.c2 0 t rfl;simp only [Nat.zero_mul,Nat.add_zero] at e0 e1 e2;exact⟨e0,e1,e2⟩
theorem Pts.one {W:World}{T:TypeId}{g:Nat}{t:Tri}(h:Bk W T g #[int u64 (t.1:Int),int u64 (t.2.1:Int),.bool t.2.2]):Pts W g 0 [t]:=by
  have e:∀i q,([t]:List Tri)[i]? =some q→i=0∧q=t:=fun i q h=>by
    cases i with
    |zero=>simp at h;exact⟨rfl,h.symm⟩
    |succ i=>simp at h
  refine⟨h.lt,fun i q hq=> ?_,fun i q hq=> ?_,fun i q hq=> ?_⟩<;>obtain ⟨rfl,rfl⟩:=e i q hq
  · exact h.cell (k:=0) rfl
  · exact h.cell (k:=1) rfl
  · exact h.cell (k:=2) rfl
theorem geB (n:Nat):decide (n<2305843010818082053)= !decide ((2305843010818082053:Int)≤(n:Int)):=by
  by_cases h:n<2305843010818082053
  · rw [decide_eq_true h,decide_eq_false (by omega)];rfl
  · rw [decide_eq_false h,decide_eq_true (by omega)];rfl
theorem zrB (t:Tri):decide (t=(0,0,true))=decide ((t.1:Int)=0∧(t.2.1:Int)=0∧t.2.2=true):=by
  obtain⟨x,y,c⟩:=t;congr 1;apply propext;simp only [Prod.mk.injEq];constructor
  · rintro⟨h0,h1,h2⟩;exact⟨by omega,by omega,h2⟩
  · rintro⟨h0,h1,h2⟩;exact⟨by omega,by omega,h2⟩
theorem rdyB_eq (mode:Int)(blind:Nat)(es:List Tri)(pc ps:Nat)(t1 t2 tp:Tri):rdyB mode blind es pc ps t1 t2 tp=(keyB blind&&elT tp&&decide (es.length=1)&&elT (es.headD gT)&& !decide ((2305843010818082053:Int)≤pc)&& !decide ((2305843010818082053:Int)≤ps)&&elT t1&&(if mode=2 then elT t2 else decide ((t2.1:Int)=0∧(t2.2.1:Int)=0∧t2.2.2=true))):=by
  unfold rdyB twB;rw [zrB t2];by_cases hl:es.length=1
  · obtain⟨t,rfl⟩:=List.length_eq_one_iff.1 hl;rw [evB_single,decide_eq_true hl,geB pc,geB ps,show ([t]:List Tri).headD gT=t from rfl,Bool.and_true]
    ac_rfl
  · rw [evB_len hl,decide_eq_false hl];simp
theorem rdyS_q (mode:Int)(blind:Nat)(es:List Tri)(pc ps:Nat)(t1 t2 tp:Tri)(q:Option Addr)(cap:Nat)(w:World)(hp:PtQ w q es):
    Cr 56 #[.int .i64 mode,int u64 blind,.agg #[.slice q es.length cap,int u64 pc,int u64 ps],.agg #[int u64 (t1.1:Int),int u64 (t1.2.1:Int),.bool t1.2.2,int u64 (t2.1:Int),int u64 (t2.2.1:Int),.bool t2.2.2],.agg #[int u64 (tp.1:Int),int u64 (tp.2.1:Int),.bool tp.2.2]] w (.bool (rdyB mode blind es pc ps t1 t2 tp)):=
  rdS_of mode blind pc ps _ _ _ _ _ _ _ _ _ _ _ _ (keyB blind) (elT tp) (elT (es.headD gT)) (elT t1) (elT t2) _ q es.length cap w (rdyB_eq mode blind es pc ps t1 t2 tp)
    (fun h=>by
      obtain⟨t,rfl⟩:=List.length_eq_one_iff.1 h;obtain⟨g,e,hp⟩:=hp.one
      exact⟨g,e,pts_one hp⟩)
    (fun w=>keyS_any (blind:Int) blind rfl w) (elS_any tp) (elS_any (es.headD gT)) (elS_any t1) (elS_any t2)
theorem gT_W:triW gT= .agg #[int u64 (px gG),int u64 (py gG),.bool (pb gG)]:=by rw [triW_of onT_g,asT_g,ptW_eq]
theorem finS_q (mode:Int)(input info:ByteArray)(blind:Nat)(es:List Tri)(pc ps:Nat)(t1 t2 tp:Tri)(q:Option Addr)(cap:Nat)(w:World)(hp:PtQ w q es):
    Calls prog 23 (finQ mode input info blind es pc ps t1 t2 tp q cap) w fun e w'=>e= .returned (.tuple #[.string (finO mode input info blind es pc ps t1 t2 tp),.int .i64 (finC mode input info blind es pc ps t1 t2 tp)])∧Bl w w':=by
  have T:=txtS_any mode input info;have RD:=fun w' (hb:Bl w w')=>rdyS_q mode blind es pc ps t1 t2 tp q cap w' (hp.keep hb)
  have bad: ¬ (txtB mode input.size info.size=true∧rdyB mode blind es pc ps t1 t2 tp=true)→finC mode input info blind es pc ps t1 t2 tp=1∧finO mode input info blind es pc ps t1 t2 tp=⟨#[]⟩:=fun h=>by
    have e:finC mode input info blind es pc ps t1 t2 tp=1:=if_neg h;exact⟨e,by unfold finO;rw [e,if_neg (by decide)]⟩
  cases h1:txtB mode input.size info.size with
  | false=>
    rw [h1] at T;obtain⟨e1,e2⟩:=bad (by simp [h1]);rw [e1,e2];exact fnS_a mode blind pc ps _ _ _ _ _ _ _ _ _ input info q es.length cap w T
  | true=>
    rw [h1] at T
    cases h2:rdyB mode blind es pc ps t1 t2 tp with
    | false=>
      obtain⟨e1,e2⟩:=bad (by simp [h2]);rw [e1,e2]
      exact fnS_b mode blind pc ps _ _ _ _ _ _ _ _ _ input info q es.length cap w T (fun w' hb=>by
        have:=RD w' hb
        rwa [h2] at this)
    | true=>
      have hC:finC mode input info blind es pc ps t1 t2 tp=if verB mode es pc ps t1 t2 tp=true then 0 else 4:=if_pos ⟨h1,h2⟩
      have hO:finO mode input info blind es pc ps t1 t2 tp=if verB mode es pc ps t1 t2 tp=true then outB mode input info (nt (M.ivn 2305843010818082053 blind) (asT (es.headD gT))) else ⟨#[]⟩:=by
        unfold finO;rw [hC];by_cases h:verB mode es pc ps t1 t2 tp=true
        · rw [if_pos h,if_pos rfl,if_pos h]
        · rw [if_neg h,if_neg (by decide),if_neg h]
      rw [h2] at RD;obtain⟨hkey,h3,hev,h4,h5⟩:=rdyB_iff.1 h2;obtain⟨te,rfl,hel,hpc,hps⟩:=evB_one hev;obtain⟨g,hq,hpt⟩:=hp.one;subst hq;obtain⟨⟨hm1,hm2⟩,hin,hinf,-⟩:=txtB_iff.1 h1;have hkl:=(keyB_iff.1 hkey).2;obtain⟨iv,hiv⟩:∃iv,M.ivn 2305843010818082053 blind=iv:=⟨_,rfl⟩;have hivl:iv<2305843010818082053:=by rw [←hiv];exact ivn_lt' _ _ (by decide)
      have IV:∀w',Cr 58 #[int u64 blind,int u64 2305843010818082053] w' (int u64 (iv:Int)):=fun w'=>by
        have:=invS_any blind 2305843010818082053 w' (by omega) (by decide) (by decide);simp only [Int.cast_ofNat_Int,hiv] at this;exact this.mono fun e w'' ⟨h,h'⟩=>⟨h,h'▸Below.refl _ _⟩
      have hte:=triW_px (elT_on hel)
      have TM:∀w',Cr 15 #[int u64 (iv:Int),.agg #[int u64 (te.1:Int),int u64 (te.2.1:Int),.bool te.2.2]] w' (.agg #[int u64 (px (nt iv (asT te))),int u64 (py (nt iv (asT te))),.bool (pb (nt iv (asT te)))]):=fun w'=>by
        have:=tiS_pt (asT_on te) iv (by omega) w';rwa [←hte.1,←hte.2.1,←hte.2.2] at this
      have OU:=fun w'=>outS_any mode input info (nt iv (asT te)) (nt_on (asT_on te) _) w' hin hinf
      obtain⟨c0,c1,c2⟩:=pts_one hpt;rw [hiv,show ([te]:List Tri).headD gT=te from rfl] at hO;rw [hO,hC];clear hO hC bad;by_cases m1:mode=1
      · subst m1;rw [show verB 1 [te] pc ps t1 t2 tp=chkB 1 gT tp [t1] [te] pc ps from if_pos rfl]
        have:=fnS_1 blind pc ps _ _ _ _ _ _ iv _ _ _ _ _ _ (chkB 1 gT tp [t1] [te] pc ps) input info _ g cap (nt iv (asT te)) w T RD c0 c1 c2 IV TM OU (fun w' h hb r=>by
          have:=chkS_any 1 gT tp [t1] [te] pc ps h 0 1 g 0 cap w' (Pts.one r) (hpt.below hb hpt.lt);rw [gT_W] at this
          exact this)
        refine this.mono fun e w' ⟨h,h'⟩=>⟨?_,h'⟩
        rw [h];cases chkB 1 gT tp [t1] [te] pc ps<;>rfl
      · by_cases m2:mode=2
        · subst m2;rw [show verB 2 [te] pc ps t1 t2 tp=chkB 2 gT t2 [te] [t1] pc ps from(if_neg (by decide)).trans (if_pos rfl)]
          have:=fnS_2 blind pc ps _ _ _ _ _ _ iv _ _ _ _ _ _ (chkB 2 gT t2 [te] [t1] pc ps) input info _ g cap (nt iv (asT te)) w T RD c0 c1 c2 IV TM OU (fun w' h hb r=>by
            have:=chkS_any 2 gT t2 [te] [t1] pc ps g 0 cap h 0 1 w' (hpt.below hb hpt.lt) (Pts.one r);rw [gT_W] at this
            exact this)
          refine this.mono fun e w' ⟨h,h'⟩=>⟨?_,h'⟩
          rw [h];cases chkB 2 gT t2 [te] [t1] pc ps<;>rfl
        · rw [show verB mode [te] pc ps t1 t2 tp=true from(if_neg m1).trans (if_neg m2)];exact fnS_0 mode blind pc ps _ _ _ _ _ _ iv _ _ _ _ _ _ input info _ g cap (nt iv (asT te)) w (by simpa using m1) (by simpa using m2) T RD c0 c1 c2 IV TM OU
theorem own_pts {W:World}{B g n cap:Nat}{ps:List Pt}(h:W.ownsRow B 34 3 (.slice (some ⟨g,0,none⟩) n cap) n (cells3 ps))(hon:∀p∈ps,on p):Pts W g 0 (ps.map ptT):=by
  have hC:=Cps.of_owns h
  have key:∀(i:Nat) (t:Tri),(ps.map ptT)[i]? =some t→∃p,ps[i]? =some p∧px p=(t.1:Int)∧py p=(t.2.1:Int)∧pb p=t.2.2:=fun i t hi=>by
    rw [List.getElem?_map] at hi;obtain⟨p,hp,rfl⟩:=Option.map_eq_some_iff.1 hi;obtain⟨-,e1,e2,e3,-⟩:=ptT_of (hon p (List.mem_of_getElem? hp));exact⟨p,hp,e1,e2,e3⟩
  refine⟨hC.lt,fun i t hi=> ?_,fun i t hi=> ?_,fun i t hi=> ?_⟩
  · obtain⟨p,hp,e1,e2,e3⟩:=key i t hi;rw [←e1];exact hC.c0 i p hp
  · obtain⟨p,hp,e1,e2,e3⟩:=key i t hi;rw [←e2];exact hC.c1 i p hp
  · obtain⟨p,hp,e1,e2,e3⟩:=key i t hi;rw [←e3];exact hC.c2 i p hp
theorem evaS_any (mode:Int)(key:Nat)(info:ByteArray)(es:List Tri)(r:Nat)(g cap:Nat)(w:World)(hp:Pts w g 0 es):
    Calls prog 7 #[.int .i64 mode,int u64 key,.string info,.slice (some ⟨g,0,none⟩) es.length cap,int u64 r] w fun e w'=>∃v,e= .returned (.tuple #[.agg #[v,int u64 ((evaK mode key info es r).1:Int),int u64 ((evaK mode key info es r).2:Int)],.int .i64 (evaC mode key info es r)])∧w'.ownsRow w.heap.size 34 3 v (evaG mode key info es r).length (cells3 (evaG mode key info es r))∧Bl w w':=by
  have bad:∀cd:Int,evaC mode key info es r=cd→ ¬ cd=0→
      (Cr 7 #[.int .i64 mode,int u64 key,.string info,.slice (some ⟨g,0,none⟩) es.length cap,int u64 r] w (.tuple #[.agg #[.slice none 0 0,int u64 0,int u64 0],.int .i64 cd]))→
      Calls prog 7 #[.int .i64 mode,int u64 key,.string info,.slice (some ⟨g,0,none⟩) es.length cap,int u64 r] w fun e w'=>∃v,e= .returned (.tuple #[.agg #[v,int u64 ((evaK mode key info es r).1:Int),int u64 ((evaK mode key info es r).2:Int)],.int .i64 (evaC mode key info es r)])∧w'.ownsRow w.heap.size 34 3 v (evaG mode key info es r).length (cells3 (evaG mode key info es r))∧Bl w w':=fun cd h h0 hB=>by
    obtain⟨hG,hK⟩:=eva_none (show ¬ evaC mode key info es r=0 by rw [h];exact h0);rw [hG,hK,h]
    exact hB.mono (by
      rintro e w' ⟨rfl,b⟩
      exact⟨_,rfl,World.ownsRow_nil _ _ _ _,b⟩)
  have T:=txtS_any mode ⟨#[]⟩ info;have K:=fun w=>keyS_any (key:Int) key rfl w
  by_cases hA:txtB mode 0 info.size=true
  · rw [show txtB mode (ByteArray.mk #[]).size info.size=true from hA] at T;obtain⟨hm,-,z2,-⟩:=txtB_iff.1 hA;by_cases hB:keyB key=true
    · rw [hB] at K; have hkl:=(keyB_iff.1 hB).2;by_cases hr:r<2305843010818082053
      · have hr': ¬ (2305843010818082053:Int)≤(r:Int):=by omega
        by_cases h0:1≤es.length
        · by_cases h9:es.length≤200
          · by_cases hall:es.all elT=true
            · have hC:evaC mode key info es r=facC mode key info:=evaC_yes ⟨hA,hB,hr,⟨h0,h9⟩,hall⟩;have F:=fun w=>facS_any mode key info w hkl z2
              by_cases hc:facC mode key info=0
              · have hC0:=hC.trans hc;have hG:evaG mode key info es r=evaE mode key info es:=if_pos hC0;have hlE:=evaE_length mode key info es;simp only [hc,if_true] at F;have hU:=ptT_of (nt_on gG_on (facT mode key info))
                have hUW:triW (evaU mode key info)= .agg #[int u64 (px (nt (facT mode key info) gG)),int u64 (py (nt (facT mode key info) gG)),.bool (pb (nt (facT mode key info) gG))]:=by
                  rw [triW_of (evaU_of mode key info).2,(evaU_of mode key info).1,ptW_eq]
                have htl:facT mode key info<2305843010818082053:=by
                  unfold facT;split
                  · exact kt_lt _ _
                  · exact hkl
                obtain⟨hb1,hb2⟩:=eva_bat (mode:=mode) (key:=key) (info:=info) ⟨h0,h9⟩ hall;rw [hG,hC0,hlE];refine evS_g mode key r info g es.length cap w es T K hr' h0 h9 rfl hp hall (facB mode key info) (facT mode key info:Nat) _ _ (nt (facT mode key info) gG) (Nat.lt_trans (facB_lt mode key info hkl) (by decide)) F (fun w'=>tiS_pt gG_on (facT mode key info) (Nat.lt_trans htl (by decide)) w') ?_;have hK:evaK mode key info es r=(if mode=1 then (prvC 1 (facT mode key info) r gT (evaU mode key info) es ((evaE mode key info es).map ptT),prvN 1 (facT mode key info) r gT (evaU mode key info) es ((evaE mode key info es).map ptT)) else if mode=2 then (prvC 2 (facT mode key info) r gT (evaU mode key info) ((evaE mode key info es).map ptT) es,prvN 2 (facT mode key info) r gT (evaU mode key info) ((evaE mode key info es).map ptT) es) else (0,0)):=if_pos hC0;have hlm:((evaE mode key info es).map ptT).length=es.length:=by rw [List.length_map,hlE]
                by_cases m1:mode=1
                · refine .inr (.inl ⟨m1,fun w' v hb hown=> ?_⟩);rw [hK,if_pos m1];obtain⟨gd,cd,rfl,-,-⟩:=hown.form h0;have hrs:=own_pts hown (evaE_on mode key info es);have:=prvS_yes 1 (facT mode key info) r gT (evaU mode key info) es ((evaE mode key info es).map ptT) g 0 cap gd 0 cd w' (hp.below hb hp.lt) hrs hb1 htl hr;rw [gT_W,hUW,hlm] at this;exact this
                · by_cases m2:mode=2
                  · refine .inr (.inr ⟨m2,fun w' v hb hown=> ?_⟩);rw [hK,if_neg m1,if_pos m2];obtain⟨gd,cd,rfl,-,-⟩:=hown.form h0;have hrs:=own_pts hown (evaE_on mode key info es);have:=prvS_yes 2 (facT mode key info) r gT (evaU mode key info) ((evaE mode key info es).map ptT) es gd 0 cd g 0 cap w' hrs (hp.below hb hp.lt) hb2 htl hr;rw [gT_W,hUW,hlm] at this;exact this
                  · refine .inl ⟨by simpa using m1,by simpa using m2,?_,?_⟩
                    · rw [hK,if_neg m1,if_neg m2];rfl
                    · rw [hK,if_neg m1,if_neg m2];rfl
              · have h3:facC mode key info=3:=by
                  unfold facC at hc⊢;split
                  · rfl
                  · rename_i hx;rw [if_neg hx] at hc;exact absurd rfl hc
                simp only [h3] at F;exact bad 3 (hC.trans h3) (by decide) (evS_f mode key r info g es.length cap w es T K hr' h0 h9 rfl hp hall 3 (by decide) F)
            · have hall':es.all elT=false:=by cases h:es.all elT<;>simp_all
              exact bad 1 (evaC_no (fun h=>hall h.2.2.2.2)) (by decide) (evS_e mode key r info g es.length cap w es T K hr' h0 h9 rfl hp hall')
          · exact bad 1 (evaC_no (fun h=>h9 h.2.2.2.1.2)) (by decide) (evS_9 mode key r info g es.length cap w T K hr' (by omega) (by omega))
        · exact bad 1 (evaC_no (fun h=>h0 h.2.2.2.1.1)) (by decide) (evS_0 mode key r info g es.length cap w T K hr' (by omega))
      · exact bad 1 (evaC_no (fun h=>hr h.2.2.1)) (by decide) (evS_r mode key r info g es.length cap w T K (by omega))
    · have hB':keyB key=false:=by cases h:keyB key<;>simp_all
      rw [hB'] at K;exact bad 1 (evaC_no (fun h=>hB h.2.1)) (by decide) (evS_k mode key r info g es.length cap w T K)
  · have hA':txtB mode (ByteArray.mk #[]).size info.size=false:=by
      cases h:txtB mode (ByteArray.mk #[]).size info.size with
      |false=>rfl
      |true=>exact absurd h hA
    rw [hA'] at T;exact bad 1 (evaC_no (fun h=>hA h.1)) (by decide) (evS_t mode key r info g es.length cap w T)
end
end Go.Proofs.YtmjniccfjffclaaGreatDoor
