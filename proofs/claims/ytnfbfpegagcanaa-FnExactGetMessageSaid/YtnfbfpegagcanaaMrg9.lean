import Derived.Test.YtnfbfpegagcanaaMrg8
set_option linter.unusedVariables false
set_option maxRecDepth 100000
set_option maxHeartbeats 16000000
namespace Go.Proofs.Ytnfbfpegagcanaa
open Go.Proofs.Try Go.RowKit
open Go.Value (int)
open Go.IntKind (u64)
section
open M
def putN:Pt→Nat
  |none=>0
  |some (x,y)=>x.val+4611686018427387904+2305843009213693952*(y.val%2)
theorem putN_some (x y:Fp):putN (some (x,y))=x.val+4611686018427387904+2305843009213693952*(y.val%2):=rfl
theorem putN_lt:∀p,putN p<18446744073709551616
  |none=>by decide
  | some (x,y)=>by
    have hx:=val_lt x;have hy:y.val%2<2:=Nat.mod_lt _ (by decide);rw [putN_some];generalize x.val=X at*;generalize y.val%2=Z at*;omega
theorem putS_inf (x y:Int)(w:World):
    Cr 57 #[.agg #[int u64 x,int u64 y,.bool true]] w (.string (strOfNums (be8 (0:Nat)))):=by
  have L:=fun w=>wordS_any 0 w (by decide)
  go_enter func57,ntmps57;go_wp2_with fail;refine(L _).mono ?_;rintro e w' ⟨rfl,hb⟩;clear L;go_wp2;go_ret;exact⟨rfl,((Below.refl _ w).alloc (Nat.le_refl _) _).trans (hb.mono (by simp))⟩
theorem putS_no (x y:Int)(w:World)(O:Cc 9 #[.agg #[int u64 x,int u64 y,.bool false]] (.bool false)):
    Cr 57 #[.agg #[int u64 x,int u64 y,.bool false]] w (.string (strOfNums (be8 (0:Nat)))):=by
  have L:=fun w=>wordS_any 0 w (by decide)
  go_enter func57,ntmps57;go_wp2_with fail;refine(O _).mono ?_;rintro e w1 ⟨rfl,b1⟩;go_wp2_with fail;refine(L _).mono ?_;rintro e w' ⟨rfl,hb⟩;clear L;go_wp2;go_ret;have b0:=(balc w (Obj.cells #[int u64 x,int u64 y,.bool false] 26)).trans (b1.mono (by simp));exact⟨rfl,b0.tr hb⟩
theorem putS_yes (x y:Int)(n:Nat)(w:World)(hx0:0≤x)(hx:x<2305843009213693951)(hy0:0≤y)(hn:(n:Int)=x+4611686018427387904+2305843009213693952*(y%2))
    (O:Cc 9 #[.agg #[int u64 x,int u64 y,.bool false]] (.bool true)):
    Cr 57 #[.agg #[int u64 x,int u64 y,.bool false]] w (.string (strOfNums (be8 n))):=by
  have L:=fun w=>wordS_any n w (by omega)
  rw [hn] at L⊢;clear hn;go_enter func57,ntmps57;go_wp2_with fail;refine(O _).mono ?_;rintro e w1 ⟨rfl,b1⟩;have r0:=(R3.new w x y false).below b1 (by simp);have c0:=r0.c0;have c1:=r0.c1;go_wp2_with fail;refine(L _).mono ?_;rintro e w' ⟨rfl,hb⟩;clear L;go_wp2;go_ret;have b0:=(balc w (Obj.cells #[int u64 x,int u64 y,.bool false] 26)).trans (b1.mono (by simp));exact⟨rfl,b0.tr hb⟩
theorem putS_any (x y:Nat)(b:Bool)(w:World):
    Cr 57 #[.agg #[int u64 x,int u64 y,.bool b]] w (.string (strOfNums (be8 (putN (asPt x y b):Nat)))):=by
  have O:=onS_any x y b
  cases b with
  | true=>
    have e:asPt x y true=none:=by
      unfold asPt toPt;rw [if_pos rfl];split<;>rfl
    rw [e];exact putS_inf x y w
  | false =>
    cases h:toPt x y false with
    | none=>
      rw [h] at O;have e:asPt x y false=none:=by unfold asPt;rw [h];rfl
      rw [e];exact putS_no x y w O
    | some p=>
      rw [h] at O;have e:=toPt_W h;rw [asPt_some h];rcases p with _|⟨X,Y⟩
      · cases e
      · have e1:(x:Int)=fv X∧(y:Int)=fv Y:=by
          simp only [ptW] at e;injection e with e;injection e with e;simpa using e
        have hX:=val_lt X;refine putS_yes x y (putN (some (X,Y))) w (by omega) ?_ (by omega) ?_ O
        · rw [e1.1];unfold fv;omega
        · rw [e1.1,e1.2,putN_some];unfold fv;generalize X.val=A;generalize Y.val=B;omega
theorem R3.keep {W W':World}{b:Nat}{x y:Int}{c:Bool}(h:R3 W b x y c)(hb:Bl W W'):R3 W' b x y c:=h.below hb h.lt
theorem kpB {n:Nat}{w0 w1 w2:World}(h:Below n w0 w1)(hn:n≤w1.heap.size)(b:Bl w1 w2):Below n w0 w2:=h.trans (b.mono hn)
theorem negS_no (x y:Int)(c o1:Bool)(w:World)(hok:o1=false∨(o1=true∧c=true))
    (F1:Cc 9 #[.agg #[int u64 x,int u64 y,.bool c]] (.bool o1)):
    Cr 12 #[.agg #[int u64 x,int u64 y,.bool c]] w (.agg #[int u64 0,int u64 0,.bool true]):=by
  obtain⟨X,hX⟩:∃X,X=(w.alloc (Obj.cells #[int u64 x,int u64 y,.bool c] 26)).alloc (Obj.cells #[int u64 0,int u64 0,.bool false] 26):=⟨_,rfl⟩;have hp:R3 X w.heap.size x y c:=by rw [hX];exact(R3.new w x y c).alloc _
  have hr:R3 X (w.heap.size+1) 0 0 false:=by rw [hX];exact(R3.new _ 0 0 false).at (by simp)
  have hb:Bl w X:=by rw [hX];exact((Below.refl _ w).alloc (Nat.le_refl _) _).alloc (by simp) _
  rw [hX] at hp hr hb;clear hX;rcases hok with rfl|⟨rfl,rfl⟩
  · go_enter func12,ntmps12;go_wp2_with fail;refine(F1 _).mono ?_;rintro e w1 ⟨rfl,b1⟩;replace hr:=hr.keep b1;replace hb:=kpB hb hb.size b1;clear b1 F1 hp;go_wp2_with fail;refine(zeroS _).mono ?_;rintro e w3 ⟨rfl,rfl⟩;replace hr:=hr.alloc (Obj.cells #[int u64 0,int u64 0,.bool true] 26);replace hb:=hb.alloc hb.size (Obj.cells #[int u64 0,int u64 0,.bool true] 26);have c0:=hr.c0;have c1:=hr.c1;have c2:=hr.c2;have f0:=hr.frz 0;have f1:=hr.frz 1;have f2:=hr.frz 2;go_wp2;exact bodyPost_ret (v:= .agg #[int u64 0,int u64 0,.bool true]) (point_res (fn:=Try.f12) (p:=2) results12 _ rfl (hr.set _ _ _)) rfl ⟨rfl,set3_below hb (by omega)⟩
  · go_enter func12,ntmps12;go_wp2_with fail;refine(F1 _).mono ?_;rintro e w1 ⟨rfl,b1⟩;replace hp:=hp.keep b1;replace hr:=hr.keep b1;replace hb:=kpB hb hb.size b1;clear b1 F1;have d2:=hp.c2;go_wp2_with fail;refine(zeroS _).mono ?_;rintro e w3 ⟨rfl,rfl⟩;replace hr:=hr.alloc (Obj.cells #[int u64 0,int u64 0,.bool true] 26);replace hb:=hb.alloc hb.size (Obj.cells #[int u64 0,int u64 0,.bool true] 26);clear d2;have c0:=hr.c0;have c1:=hr.c1;have c2:=hr.c2;have f0:=hr.frz 0;have f1:=hr.frz 1;have f2:=hr.frz 2;go_wp2;exact bodyPost_ret (v:= .agg #[int u64 0,int u64 0,.bool true]) (point_res (fn:=Try.f12) (p:=2) results12 _ rfl (hr.set _ _ _)) rfl ⟨rfl,set3_below hb (by omega)⟩
theorem negS_yes (x y z:Int)(w:World)(hy:IntKind.u64.wrap (2305843009213693951-y)=2305843009213693951-y)(hz:(2305843009213693951-y).tmod 2305843009213693951=z)
    (F1:Cc 9 #[.agg #[int u64 x,int u64 y,.bool false]] (.bool true)):
    Cr 12 #[.agg #[int u64 x,int u64 y,.bool false]] w (.agg #[int u64 x,int u64 z,.bool false]):=by
  obtain⟨X,hX⟩:∃X,X=(w.alloc (Obj.cells #[int u64 x,int u64 y,.bool false] 26)).alloc (Obj.cells #[int u64 0,int u64 0,.bool false] 26):=⟨_,rfl⟩;have hp:R3 X w.heap.size x y false:=by rw [hX];exact(R3.new w x y false).alloc _
  have hr:R3 X (w.heap.size+1) 0 0 false:=by rw [hX];exact(R3.new _ 0 0 false).at (by simp)
  have hb:Bl w X:=by rw [hX];exact((Below.refl _ w).alloc (Nat.le_refl _) _).alloc (by simp) _
  rw [hX] at hp hr hb;clear hX;go_enter func12,ntmps12;go_wp2_with fail;refine(F1 _).mono ?_;rintro e w1 ⟨rfl,b1⟩;replace hp:=hp.keep b1;replace hr:=hr.keep b1;replace hb:=kpB hb hb.size b1;clear b1 F1;have d0:=hp.c0;have d1:=hp.c1;have d2:=hp.c2;have c0:=hr.c0;have c1:=hr.c1;have c2:=hr.c2;have f0:=hr.frz 0;have f1:=hr.frz 1;have f2:=hr.frz 2;go_wp2;exact bodyPost_ret (v:= .agg #[int u64 x,int u64 z,.bool false]) (point_res (fn:=Try.f12) (p:=2) results12 _ rfl (hr.set _ _ _)) rfl ⟨rfl,set3_below hb (by omega)⟩
theorem fv_neg (y:Fp):(2305843009213693951-fv y).tmod 2305843009213693951=fv (-y):=by
  have hy:=val_lt y
  have e:(-y).val=(2305843009213693951-y.val)%2305843009213693951:=by
    rw [Fin.val_neg];split
    · rename_i h;subst h;rfl
    · rename_i h
      have:y.val≠0:=fun e=>h (Fin.ext e)
      omega
  unfold fv;rw [e,Int.tmod_eq_emod_of_nonneg (by omega)];generalize y.val=Y at*;omega
theorem negS_any (x y:Nat)(c:Bool)(w:World):
    Cr 12 #[.agg #[int u64 x,int u64 y,.bool c]] w (ptW (ng (asPt x y c))):=by
  have F1:=onS_any x y c
  cases h1:toPt x y c with
  | none=>
    rw [h1] at F1;have e:asPt x y c=none:=by unfold asPt;rw [h1];rfl
    rw [e];exact negS_no _ _ _ _ w (.inl rfl) F1
  | some p=>
    rw [h1] at F1;rw [asPt_some h1];obtain⟨e1,e2,e3⟩:=fields_of h1;rcases p with _|⟨X,Y⟩
    · subst e3;exact negS_no _ _ _ _ w (.inr ⟨rfl,rfl⟩) F1
    · subst e3;have hY:=val_lt Y;have hy:(y:Int)=fv Y:=e2;have hx:(x:Int)=fv X:=e1;have:=negS_yes x y (fv (-Y)) w (by rw [IntKind.wrap_u64,hy];unfold fv;omega) (by rw [hy];exact fv_neg Y) F1;rw [hx] at this⊢;exact this
end
end Go.Proofs.Ytnfbfpegagcanaa
