import Derived.Test.YtjhbckngdclleaaGreatDoorMrg41
import Derived.Test.YtjhbckngdclleaaGreatDoorMrg43
import Derived.Test.YtjhbckngdclleaaGreatDoorMrg30
set_option linter.unusedVariables false
set_option maxRecDepth 100000
set_option maxHeartbeats 16000000
namespace Go.Proofs.YtjhbckngdclleaaGreatDoor
open Go.Proofs.Tryz Go.RowKit
open Go.Value (int)
open Go.IntKind (u64)
section
open M
theorem Y.sideS {S:List Nat}{W W':World}(h:G.Sides S W W'){t:TypeId}{b:Nat}{cs:Array Value}(hb:Bk W t b cs)(hn:b∉S):Bk W' t b cs:=(h.block b hb.lt hn).trans hb
end
theorem long4 (b:ByteArray)(hb:b.size=4):∀(n:Nat),n≤65536→∀(w:World),
    Calls prog 52 #[.int .i64 n,.string b] w fun e w'=>(∃s:ByteArray,s.size≤n+3∧e= .returned (.string s))∧w=w':=by
  intro n
  induction n using Nat.strongRecOn with
  |_ n ih=>
  intro hn w;by_cases h0:n=0
  · subst h0;go_enter func52,ntmps52;go_wp2
    go_loop [5] (fun v=>v= .string ByteArray.empty) (fun _=>0)
    case atStart=>rfl
    case round=>
      subst hrel;go_wp2;go_ret;exact⟨⟨_,by decide,rfl⟩,rfl⟩
  · have hpos:(0:Int)<(n:Int):=by omega
    go_enter func52,ntmps52;go_wp2
    go_loop [5] (fun v=>∃s:ByteArray,v= .string s∧4≤s.size∧s.size≤n+3) (fun v=>n+4-strLen v)
    case atStart=>exact ⟨b,rfl,by omega,by omega⟩
    case round=>
      obtain⟨s,rfl,h2,h3⟩:=hrel;by_cases hm:s.size*2≤n
      · have hmi:(s.size:Int)*2≤(n:Int):=by omega
        go_wp2;have hsz:(s++s).size=s.size+s.size:=by simp
        go_round
        case rel=>exact ⟨s++s,rfl,by omega,by omega⟩
        case measure=>simp [strLen];omega
      · have hmi: ¬ ((s.size:Int)*2≤(n:Int)):=by omega
        by_cases hl:s.size<n
        · have hli:(s.size:Int)<(n:Int):=by omega
          have I:=ih (n-s.size) (by omega) (by omega);have e1:((n-s.size:Nat):Int)=(n:Int)-(s.size:Int):=by omega
          rw [e1] at I;go_wp2_with fail;refine(I _).mono ?_;rintro e w' ⟨⟨r,hr,rfl⟩,rfl⟩;clear I ih;go_wp2;go_ret;exact⟨⟨s++r,by simp;omega,rfl⟩,rfl⟩
        · have hli: ¬ ((s.size:Int)<(n:Int)):=by omega
          go_wp2;go_ret;exact⟨⟨s,by omega,rfl⟩,rfl⟩
theorem dder (v:Value)(w:World)(hv:Cod w v):
    Calls prog 15 #[v] w fun e w'=>(∃(m:Int) (s t:ByteArray),e= .returned (.tuple #[.int .i64 m,.string s,.string t]))∧Bl w w':=by
  have T1:=dtxt_any v 0 w hv (by omega);go_enter func15,ntmps15;go_wp2_with fail;refine T1.mono ?_;rintro e w1 ⟨⟨m,s,t,q,hm,hs,ht,hq,rfl⟩,hB⟩;have T2:=take_any v q 20 w1 (hv.below hB) (by omega) (by omega) (by omega);clear T1;go_wp2_with fail;refine T2.mono ?_;rintro e w2 ⟨⟨h,hh,rfl⟩,rfl⟩;clear T2;have eq1:(q:Int)+1=((q+1:Nat):Int):=by omega
  simp only [eq1];by_cases h19:h=19
  · subst h19;have T3:=byt_any v (q+1) 31 w1 (hv.below hB) (by omega) (by omega);clear eq1;go_wp2_with fail;refine T3.mono ?_;rintro e w3 ⟨⟨sd,hsd,rfl⟩,d3⟩;replace hB:=hB.tr d3;go_wp2;exact bodyPost_ret (v:= .tuple #[.int .i64 m,.string sd,.string s]) (by simp [results,results15]) rfl ⟨⟨m,sd,s,rfl⟩,hB⟩
  · have g19: ¬ (h:Int)=19:=by omega
    have T3:=byt_any v (q+1) 32 w1 (hv.below hB) (by omega) (by omega);by_cases h18:h=18
    · subst h18;have L4:=fun w=>long4 ⟨#[105,110,102,111]⟩ rfl (60000+(q+1)%2) (by omega) w
      have er:((q+1:Nat):Int).tmod 2=(((q+1)%2:Nat):Int):=(Int.ofNat_tmod (q+1) 2).symm;rw [show ((q+1:Nat):Int)=(q:Int)+1 by omega] at er;have ea:(60000:Int)+(((q+1)%2:Nat):Int)=((60000+(q+1)%2:Nat):Int):=by omega
      rw [←ea] at L4;clear ea;have hr2:(((q+1)%2:Nat):Int)<2:=by omega
      generalize (q+1)%2=r2 at*;have hw:IntKind.i64.wrap (60000+(r2:Int))=60000+(r2:Int):=by rw [IntKind.wrap_i64];omega
      clear eq1 g19;go_wp2_with fail;refine T3.mono ?_;rintro e w3 ⟨⟨sd,hsd,rfl⟩,d3⟩;replace hB:=hB.tr d3;go_wp2_with fail
      try rw [er]
      refine(L4 _).mono ?_;rintro e w4 ⟨⟨r,hr,rfl⟩,rfl⟩;go_wp2;exact bodyPost_ret (v:= .tuple #[.int .i64 m,.string sd,.string r]) (by simp [results,results15]) rfl ⟨⟨m,sd,r,rfl⟩,hB⟩
    · have g18: ¬ (h:Int)=18:=by omega
      clear eq1;go_wp2_with fail;refine T3.mono ?_;rintro e w3 ⟨⟨sd,hsd,rfl⟩,d3⟩;replace hB:=hB.tr d3;go_wp2;exact bodyPost_ret (v:= .tuple #[.int .i64 m,.string sd,.string s]) (by simp [results,results15]) rfl ⟨⟨m,sd,s,rfl⟩,hB⟩
theorem res31 {W:World}{c0 c1 c2:Array Value}{b0 b1 b2:Nat}{fn:Func}{p q r u:Tmp}(h:fn.results=#[.cell p 27,.cell q 27,.cell r 27,.tmp u])(tmps:Array Value)(hp:tmps.getD p undef= .pointer (some ⟨b0,0,none⟩))(hq:tmps.getD q undef= .pointer (some ⟨b1,0,none⟩))(hr:tmps.getD r undef= .pointer (some ⟨b2,0,none⟩))
    (h0:Bk W 27 b0 c0)(h1:Bk W 27 b1 c1)(h2:Bk W 27 b2 c2)(i0:c0.size=3)(i1:c1.size=3)(i2:c2.size=3):
    (results fn tmps).run prog W= .ok (.tuple #[.agg c0,.agg c1,.agg c2,tmps.getD u undef]) W:=by
  have hi:(prog.info? 27).map (·.size)=some 3:=by kernel_rfl
  have hp':tmps[p]?.getD undef= .pointer (some ⟨b0,0,none⟩):=by simpa using hp
  have hq':tmps[q]?.getD undef= .pointer (some ⟨b1,0,none⟩):=by simpa using hq
  have hr':tmps[r]?.getD undef= .pointer (some ⟨b2,0,none⟩):=by simpa using hr
  have l0:=run_loadVar_mid (P:=prog) W b0 0 27 c0.toList _ h0.range underlying27 rfl (by rw [hi,Array.length_toList,i0]);have l1:=run_loadVar_mid (P:=prog) W b1 0 27 c1.toList _ h1.range underlying27 rfl (by rw [hi,Array.length_toList,i1]);have l2:=run_loadVar_mid (P:=prog) W b2 0 27 c2.toList _ h2.range underlying27 rfl (by rw [hi,Array.length_toList,i2]);simp [results,h,hp',hq',hr',asAddr,l0,l1,l2]
theorem dagr (v:Value)(w:World)(hv:Cod w v):
    Calls prog 19 #[v] w fun e w'=>(∃(x0 y0:Nat) (c0:Bool) (x1 y1:Nat) (c1:Bool) (x2 y2:Nat) (c2:Bool) (s:ByteArray),s.size≤65537∧e= .returned (.tuple #[.agg #[int u64 (x0:Int),int u64 (y0:Int),.bool c0],.agg #[int u64 (x1:Int),int u64 (y1:Int),.bool c1],.agg #[int u64 (x2:Int),int u64 (y2:Int),.bool c2],.string s]))∧Bl w w':=by
  have hb2:=Bk.new w 27 #[int u64 0,int u64 0,.bool false];have lhb2:w.heap.size=w.heap.size:=rfl;have hB:=balc w (Obj.cells #[int u64 0,int u64 0,.bool false] 27);obtain⟨W1,eW1⟩:∃W,w.alloc (Obj.cells #[int u64 0,int u64 0,.bool false] 27)=W:=⟨_,rfl⟩;rw [eW1] at hb2 hB;have hb3:=Bk.new W1 27 #[int u64 0,int u64 0,.bool false];have lhb3:W1.heap.size=W1.heap.size:=rfl;replace hb2:=hb2.alloc (Obj.cells #[int u64 0,int u64 0,.bool false] 27);replace hB:=hB.alloc hB.size (Obj.cells #[int u64 0,int u64 0,.bool false] 27);obtain⟨W2,eW2⟩:∃W,W1.alloc (Obj.cells #[int u64 0,int u64 0,.bool false] 27)=W:=⟨_,rfl⟩;rw [eW2] at hb2 hb3 hB;have hb4:=Bk.new W2 27 #[int u64 0,int u64 0,.bool false];have lhb4:W2.heap.size=W2.heap.size:=rfl;replace hb2:=hb2.alloc (Obj.cells #[int u64 0,int u64 0,.bool false] 27);replace hb3:=hb3.alloc (Obj.cells #[int u64 0,int u64 0,.bool false] 27);replace hB:=hB.alloc hB.size (Obj.cells #[int u64 0,int u64 0,.bool false] 27);obtain⟨W3,eW3⟩:∃W,W2.alloc (Obj.cells #[int u64 0,int u64 0,.bool false] 27)=W:=⟨_,rfl⟩;rw [eW3] at hb2 hb3 hb4 hB;obtain⟨b2,qb2⟩:∃b,w.heap.size=b:=⟨_,rfl⟩;obtain⟨b3,qb3⟩:∃b,W1.heap.size=b:=⟨_,rfl⟩;obtain⟨b4,qb4⟩:∃b,W2.heap.size=b:=⟨_,rfl⟩;have s1:W1.heap.size=w.heap.size+1:=by rw [←eW1];simp
  have s2:W2.heap.size=W1.heap.size+1:=by rw [←eW2];simp
  have s3:W3.heap.size=W2.heap.size+1:=by rw [←eW3];simp
  have lb2:w.heap.size≤b2:=by omega
  have lb3:w.heap.size≤b3:=by omega
  have lb4:w.heap.size≤b4:=by omega
  have u2:b2<W3.heap.size:=by omega
  have u3:b3<W3.heap.size:=by omega
  have u4:b4<W3.heap.size:=by omega
  have k23:b2≠b3:=by omega
  have k24:b2≠b4:=by omega
  have k34:b3≠b4:=by omega
  rw [qb2] at hb2;rw [qb3] at hb3;rw [qb4] at hb4;clear s1 s2 s3 lhb2 lhb3 lhb4;go_enter func19,ntmps19;have A0:=dany_any v 0 W3 (hv.below hB) (by omega);go_wp2_with fail;refine A0.mono ?_;rintro e w4 ⟨⟨x0,y0,c0,hx0,hy0,rfl⟩,d1⟩;replace hb2:=hb2.keep d1;replace hb3:=hb3.keep d1;replace hb4:=hb4.keep d1;have m0:W3.heap.size≤w4.heap.size:=d1.size;replace hB:=hB.tr d1;clear d1 A0;have hb6:=Bk.new w4 27 #[int u64 (x0:Int),int u64 (y0:Int),.bool c0];replace hb2:=hb2.alloc (Obj.cells #[int u64 (x0:Int),int u64 (y0:Int),.bool c0] 27);replace hb3:=hb3.alloc (Obj.cells #[int u64 (x0:Int),int u64 (y0:Int),.bool c0] 27);replace hb4:=hb4.alloc (Obj.cells #[int u64 (x0:Int),int u64 (y0:Int),.bool c0] 27);replace hB:=hB.alloc hB.size (Obj.cells #[int u64 (x0:Int),int u64 (y0:Int),.bool c0] 27);have z0:(w4.alloc (Obj.cells #[int u64 (x0:Int),int u64 (y0:Int),.bool c0] 27)).heap.size=w4.heap.size+1:=by simp
  obtain⟨W5,eW5⟩:∃W,w4.alloc (Obj.cells #[int u64 (x0:Int),int u64 (y0:Int),.bool c0] 27)=W:=⟨_,rfl⟩;rw [eW5] at hb2 hb3 hb4 hb6 hB z0;obtain⟨b6,qb6⟩:∃b,w4.heap.size=b:=⟨_,rfl⟩;rw [qb6] at hb6 z0;have A1:=dany_any v (0+12) W5 (hv.below hB) (by omega);go_wp2_with fail;refine A1.mono ?_;rintro e w6 ⟨⟨x1,y1,c1,hx1,hy1,rfl⟩,d1⟩;replace hb2:=hb2.keep d1;replace hb3:=hb3.keep d1;replace hb4:=hb4.keep d1;replace hb6:=hb6.keep d1;have m1:W5.heap.size≤w6.heap.size:=d1.size;replace hB:=hB.tr d1;clear d1 A1;have hb8:=Bk.new w6 27 #[int u64 (x1:Int),int u64 (y1:Int),.bool c1];replace hb2:=hb2.alloc (Obj.cells #[int u64 (x1:Int),int u64 (y1:Int),.bool c1] 27);replace hb3:=hb3.alloc (Obj.cells #[int u64 (x1:Int),int u64 (y1:Int),.bool c1] 27);replace hb4:=hb4.alloc (Obj.cells #[int u64 (x1:Int),int u64 (y1:Int),.bool c1] 27);replace hb6:=hb6.alloc (Obj.cells #[int u64 (x1:Int),int u64 (y1:Int),.bool c1] 27);replace hB:=hB.alloc hB.size (Obj.cells #[int u64 (x1:Int),int u64 (y1:Int),.bool c1] 27);have z1:(w6.alloc (Obj.cells #[int u64 (x1:Int),int u64 (y1:Int),.bool c1] 27)).heap.size=w6.heap.size+1:=by simp
  obtain⟨W7,eW7⟩:∃W,w6.alloc (Obj.cells #[int u64 (x1:Int),int u64 (y1:Int),.bool c1] 27)=W:=⟨_,rfl⟩;rw [eW7] at hb2 hb3 hb4 hb6 hb8 hB z1;obtain⟨b8,qb8⟩:∃b,w6.heap.size=b:=⟨_,rfl⟩;rw [qb8] at hb8 z1;have A2:=dany_any v (0+12+12) W7 (hv.below hB) (by omega);go_wp2_with fail;refine A2.mono ?_;rintro e w7 ⟨⟨x2,y2,c2,hx2,hy2,rfl⟩,d1⟩;replace hb2:=hb2.keep d1;replace hb3:=hb3.keep d1;replace hb4:=hb4.keep d1;replace hb6:=hb6.keep d1;replace hb8:=hb8.keep d1;have m2:W7.heap.size≤w7.heap.size:=d1.size;replace hB:=hB.tr d1;clear d1 A2;have hb10:=Bk.new w7 27 #[int u64 (x2:Int),int u64 (y2:Int),.bool c2];replace hb2:=hb2.alloc (Obj.cells #[int u64 (x2:Int),int u64 (y2:Int),.bool c2] 27);replace hb3:=hb3.alloc (Obj.cells #[int u64 (x2:Int),int u64 (y2:Int),.bool c2] 27);replace hb4:=hb4.alloc (Obj.cells #[int u64 (x2:Int),int u64 (y2:Int),.bool c2] 27);replace hb6:=hb6.alloc (Obj.cells #[int u64 (x2:Int),int u64 (y2:Int),.bool c2] 27);replace hb8:=hb8.alloc (Obj.cells #[int u64 (x2:Int),int u64 (y2:Int),.bool c2] 27);replace hB:=hB.alloc hB.size (Obj.cells #[int u64 (x2:Int),int u64 (y2:Int),.bool c2] 27);have z2:(w7.alloc (Obj.cells #[int u64 (x2:Int),int u64 (y2:Int),.bool c2] 27)).heap.size=w7.heap.size+1:=by simp
  obtain⟨W8,eW8⟩:∃W,w7.alloc (Obj.cells #[int u64 (x2:Int),int u64 (y2:Int),.bool c2] 27)=W:=⟨_,rfl⟩;rw [eW8] at hb2 hb3 hb4 hb6 hb8 hb10 hB z2;obtain⟨b10,qb10⟩:∃b,w7.heap.size=b:=⟨_,rfl⟩;rw [qb10] at hb10 z2;have A3:=some_any v (0+12+12+12) W8 (hv.below hB) (by omega);go_wp2_with fail;refine A3.mono ?_;rintro e W9 ⟨⟨s,q,hs,hq,rfl⟩,d1⟩;replace hb2:=hb2.keep d1;replace hb3:=hb3.keep d1;replace hb4:=hb4.keep d1;replace hb6:=hb6.keep d1;replace hb8:=hb8.keep d1;replace hb10:=hb10.keep d1;replace hB:=hB.tr d1;clear d1 A3;go_wp2;have nb6:b6∉ [b2,b3,b4]:=by simp only [List.mem_cons,List.not_mem_nil,or_false];omega
  have nb8:b8∉ [b2,b3,b4]:=by simp only [List.mem_cons,List.not_mem_nil,or_false];omega
  have nb10:b10∉ [b2,b3,b4]:=by simp only [List.mem_cons,List.not_mem_nil,or_false];omega
  clear u2 u3 u4 m0 m1 m2 z0 z1 z2 qb2 qb3 qb4 qb6 qb8 qb10 eW1 eW2 eW3 eW5 eW7 eW8
  refine G.pool_list (W:=W9) [b2,b3,b4] [.val (.agg #[int u64 (x0:Int),int u64 (y0:Int),.bool c0]),
      .val (.agg #[int u64 (x1:Int),int u64 (y1:Int),.bool c1]),
      .val (.agg #[int u64 (x2:Int),int u64 (y2:Int),.bool c2]),
      .val (.string s),
      .set (b2) (.cells #[int u64 0,int u64 0,.bool false] 27) (.cells #[int u64 (x0:Int),int u64 (y0:Int),.bool c0] 27),
      .set (b3) (.cells #[int u64 0,int u64 0,.bool false] 27) (.cells #[int u64 (x1:Int),int u64 (y1:Int),.bool c1] 27),
      .set (b4) (.cells #[int u64 0,int u64 0,.bool false] 27) (.cells #[int u64 (x2:Int),int u64 (y2:Int),.bool c2] 27),
      .val (.string s)] [[6],[8],[10],[12],[2,37],[3,38],[4,39],[40]] (fun f=> [(some 37,.agg #[int u64 (x0:Int),int u64 (y0:Int),.bool c0]),(some 38,.agg #[int u64 (x1:Int),int u64 (y1:Int),.bool c1]),(some 39,.agg #[int u64 (x2:Int),int u64 (y2:Int),.bool c2]),(some 40,.string s),(none,undef),(none,undef),(none,undef),(some 5,.string s)]) (by kernel_rfl) (by kernel_rfl) (by kernel_rfl) (by kernel_rfl) (fun _=>by kernel_rfl) (G.last_of [.cells #[int u64 0,int u64 0,.bool false] 27,.cells #[int u64 0,int u64 0,.bool false] 27,.cells #[int u64 0,int u64 0,.bool false] 27] (fun F R hm=>by simp at hm) (fun ob ob' k hm=>by simp at hm) (fun b ob ob' hm=>by simp at hm;rcases hm with h|h|h<;>simp [h])) (fun b ob ob' hm=>by simp at hm;rcases hm with ⟨rfl,rfl,-⟩|⟨rfl,rfl,-⟩|⟨rfl,rfl,-⟩;exact hb2;exact hb3;exact hb4) ?_ ?_
  · intro ix hix
    match ix,hix with
    |0,_=>exact G.obv [(6,.pointer (some ⟨b6,0,none⟩))] rfl rfl (fun A w ⟨e0,_⟩ hB=>Y.ldT underlying27 rfl (by kernel_rfl) e0 (Y.sideS hB hb6 nb6))
    |1,_=>exact G.obv [(8,.pointer (some ⟨b8,0,none⟩))] rfl rfl (fun A w ⟨e0,_⟩ hB=>Y.ldT underlying27 rfl (by kernel_rfl) e0 (Y.sideS hB hb8 nb8))
    |2,_=>exact G.obv [(10,.pointer (some ⟨b10,0,none⟩))] rfl rfl (fun A w ⟨e0,_⟩ hB=>Y.ldT underlying27 rfl (by kernel_rfl) e0 (Y.sideS hB hb10 nb10))
    |3,_=>exact G.obv [(12,.string s)] rfl rfl (fun A w ⟨e0,_⟩ hB=>Y.move e0)
    |4,_=>exact G.ob_set (fun f=> [(2,.pointer (some ⟨b2,0,none⟩)),(37,.agg #[int u64 (x0:Int),int u64 (y0:Int),.bool c0])]) rfl rfl rfl (by simp) hb2.lt (fun j ob1 ob2 h=>by (rcases j with _|_|_|_|_|_|_|_|j)<;>simp [G.kindOf] at h⊢ <;>omega) (fun _=>by kernel_rfl) (fun f A w ⟨e0,e1,_⟩ hh hr=>Y.puA e0 e1 hr rfl (by kernel_rfl) (by simp [Value.oneCell']))
    |5,_=>exact G.ob_set (fun f=> [(3,.pointer (some ⟨b3,0,none⟩)),(38,.agg #[int u64 (x1:Int),int u64 (y1:Int),.bool c1])]) rfl rfl rfl (by simp) hb3.lt (fun j ob1 ob2 h=>by (rcases j with _|_|_|_|_|_|_|_|j)<;>simp [G.kindOf] at h⊢ <;>omega) (fun _=>by kernel_rfl) (fun f A w ⟨e0,e1,_⟩ hh hr=>Y.puA e0 e1 hr rfl (by kernel_rfl) (by simp [Value.oneCell']))
    |6,_=>exact G.ob_set (fun f=> [(4,.pointer (some ⟨b4,0,none⟩)),(39,.agg #[int u64 (x2:Int),int u64 (y2:Int),.bool c2])]) rfl rfl rfl (by simp) hb4.lt (fun j ob1 ob2 h=>by (rcases j with _|_|_|_|_|_|_|_|j)<;>simp [G.kindOf] at h⊢ <;>omega) (fun _=>by kernel_rfl) (fun f A w ⟨e0,e1,_⟩ hh hr=>Y.puA e0 e1 hr rfl (by kernel_rfl) (by simp [Value.oneCell']))
    |7,_=>exact G.obv [(40,.string s)] rfl rfl (fun A w ⟨e0,_⟩ hB=>Y.assign e0)
    |ix+8,h=>exact absurd h (by simp)
  intro f W10 hS _ _ _ hset;have q2:Bk W10 27 b2 #[int u64 (x0:Int),int u64 (y0:Int),.bool c0]:=hset 4 _ _ _ rfl (by decide);have q3:Bk W10 27 b3 #[int u64 (x1:Int),int u64 (y1:Int),.bool c1]:=hset 5 _ _ _ rfl (by decide);have q4:Bk W10 27 b4 #[int u64 (x2:Int),int u64 (y2:Int),.bool c2]:=hset 6 _ _ _ rfl (by decide);have hB3:Bl w W10:=hS.under hB.drew (by intro b h;simp only [List.mem_cons,List.not_mem_nil,or_false] at h;omega) hB.size;clear hset hS;simp only [puts,List.foldl,Act.put,List.setIfInBounds_toArray,List.set_cons_zero,List.set_cons_succ];go_wp2;exact bodyPost_ret (v:= .tuple #[.agg #[int u64 (x0:Int),int u64 (y0:Int),.bool c0],.agg #[int u64 (x1:Int),int u64 (y1:Int),.bool c1],.agg #[int u64 (x2:Int),int u64 (y2:Int),.bool c2],.string s]) (res31 (fn:=Tryz.f19) (p:=2) (q:=3) (r:=4) (u:=5) results19 _ rfl rfl rfl q2 q3 q4 rfl rfl rfl) rfl ⟨⟨_,_,_,_,_,_,_,_,_,s,hs,rfl⟩,hB3⟩
section
open M
theorem cfAS (args:Array Value)(w:World):(callFunc 23 args).run prog w= .ok (.enter 23 args) w:=by kernel_rfl
theorem cfAI (args:Array Value)(w:World):(callFunc 22 args).run prog w= .ok (.enter 22 args) w:=by kernel_rfl
theorem alK {A:Act}{w:World}{dst:Option Tmp}{ty:TypeId}{ps:String}{af:Array Edge}{gd:Option (Nat×Bool)}:Does prog (Opr dst (.alloc 46) ty ps af gd) A w fun v w'=>v= .pointer (some ⟨w.heap.size,0,none⟩)∧w'=w.alloc (.cells #[.string ⟨#[]⟩,.string ⟨#[]⟩,.string ⟨#[]⟩] 46):=by
  have h:(execOp A.eval (Opr dst (.alloc 46) ty ps af gd)).run prog w= .ok (.value (.pointer (some ⟨w.heap.size,0,none⟩))) (w.alloc (.cells #[.string ⟨#[]⟩,.string ⟨#[]⟩,.string ⟨#[]⟩] 46)):=by simp [execOp,go_sem]
  exact does_value h ⟨rfl,rfl⟩
theorem Bk.keptG {W W':World}{t:TypeId}{b:Nat}{cs:Array Value}{row:Option Nat}(h:Bk W t b cs)(hg:W.grownBy W' row)(hne:some b≠row):Bk W' t b cs:=(hg.block b h.lt hne).trans h
theorem belowK {N:Nat}{w W W':World}{b:Nat}(h:Below N w W)(hg:W.grownBy W' (some b))(hN:N≤b)(hw:N≤W.heap.size):Below N w W':=⟨hg.os.trans h.os,hg.tape.trans h.tape,hg.output.trans h.output,Nat.le_trans h.size hg.size,fun k hk=>(hg.block k (Nat.lt_of_lt_of_le hk hw) (fun e=>by have:=Option.some.inj e;omega)).trans (h.block k hk)⟩
end
end Go.Proofs.YtjhbckngdclleaaGreatDoor
