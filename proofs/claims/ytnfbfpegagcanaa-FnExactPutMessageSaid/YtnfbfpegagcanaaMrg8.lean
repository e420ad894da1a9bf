import Derived.Test.YtnfbfpegagcanaaMrg7
set_option linter.unusedVariables false
set_option maxRecDepth 100000
set_option maxHeartbeats 16000000
namespace Go.Proofs.Ytnfbfpegagcanaa
open Go.Proofs.Try Go.RowKit
open Go.Value (int)
open Go.IntKind (u64)
section
open M
noncomputable def asPt (x y:Nat) (b:Bool):Pt:=(toPt x y b).getD none
theorem asPt_some {x y:Nat}{b:Bool}{p:Pt}(h:toPt x y b=some p):asPt x y b=p:=by unfold asPt;rw [h];rfl
theorem fields_of {x y:Nat}{c:Bool}{p:Pt}(h:toPt x y c=some p):(x:Int)=px p∧(y:Int)=py p∧c=pb p:=by
  have e:=toPt_W h;rw [ptW_eq] at e;injection e with e;injection e with e;simpa using e
theorem toPt_self {X Y:Fp}(h:on (some (X,Y))):toPt X.val Y.val false=some (some (X,Y)):=by
  unfold toPt;rw [if_neg (by decide),dif_pos ⟨X.isLt,Y.isLt⟩];exact if_pos h
theorem onS_some (x y:Fp)(w:World):
    Cr 9 #[.agg #[int u64 (x.val:Nat),int u64 (y.val:Nat),.bool false]] w (.bool (decide (y*y=crv x))):=by
  have hx:=val_lt x;have hy:=val_lt y
  have e:decide (y*y=crv x)=(((y*y).val:Int)==((crv x).val:Int)):=by
    rw [Bool.eq_iff_iff];simp [Fin.ext_iff];omega
  have L1:=fun w=>fmul_v (w:=w) y y
  have L2:=fun w=>rightS (w:=w) x
  rw [e];clear e;generalize (y*y).val=r1 at*;generalize (crv x).val=r2 at*;generalize x.val=X at*;generalize y.val=Y at*;have hxi:(X:Int)<2305843009213693951:=by omega
  have hyi:(Y:Int)<2305843009213693951:=by omega
  clear hx hy;go_enter func9,ntmps9;go_wp2
  go_region_held3 (fun w'=>w'.cell? ⟨w.heap.size,0,none⟩=some (int u64 (X:Int))∧w'.cell? ⟨w.heap.size,1,none⟩=some (int u64 (Y:Int))) (go_keep) (first
    |(go_at_call 26;refine(L1 _).mono ?_;rintro e w' ⟨rfl,rfl⟩)
    |(go_at_call 27;refine(L2 _).mono ?_;rintro e w' ⟨rfl,rfl⟩))
  clear L1 L2;go_wp2;go_ret;exact⟨rfl,((Below.refl _ _).alloc (Nat.le_refl _) _).drew⟩
theorem onS_inf (x y:Nat)(w:World):
    Cr 9 #[.agg #[int u64 x,int u64 y,.bool true]] w (.bool (decide (x=0∧y=0))):=by
  have e:decide (x=0∧y=0)=(((x:Int)==0)&&((y:Int)==0)):=by
    rw [Bool.eq_iff_iff];simp
  rw [e];clear e;by_cases h:x=0
  · subst h;go_enter func9,ntmps9;go_wp2;go_ret;exact⟨rfl,(Below.refl _ _).alloc (Nat.le_refl _) _⟩
  · have h':((x:Int)==0)=false:=by simp;omega
    go_enter func9,ntmps9;go_wp2;go_ret;exact⟨by rw [h'];rfl,(Below.refl _ _).alloc (Nat.le_refl _) _⟩
theorem onS_bigx (x y:Int)(w:World)(h:2305843009213693951≤x):
    Cr 9 #[.agg #[int u64 x,int u64 y,.bool false]] w (.bool false):=by
  have h2:(x<2305843009213693951)=False:=by simp;omega
  have h3:decide (x<2305843009213693951)=false:=by simp;omega
  clear h;go_enter func9,ntmps9;go_wp2
  go_region
  go_wp2;go_ret;exact⟨rfl,((Below.refl _ _).alloc (Nat.le_refl _) _).drew⟩
theorem onS_bigy (x y:Int)(w:World)(h1:x<2305843009213693951)(h:2305843009213693951≤y):
    Cr 9 #[.agg #[int u64 x,int u64 y,.bool false]] w (.bool false):=by
  have h2:(y<2305843009213693951)=False:=by simp;omega
  have h3:decide (y<2305843009213693951)=false:=by simp;omega
  have h4:(x<2305843009213693951)=True:=by simp [h1]
  have h5:decide (x<2305843009213693951)=true:=by simp [h1]
  clear h h1;go_enter func9,ntmps9;go_wp2
  go_region
  go_wp2;go_ret;exact⟨rfl,((Below.refl _ _).alloc (Nat.le_refl _) _).drew⟩
theorem onS_any (x y:Nat)(b:Bool)(w:World):
    Cr 9 #[.agg #[int u64 x,int u64 y,.bool b]] w (.bool (toPt x y b).isSome):=by
  cases b
  · by_cases h1:x<2305843009213693951
    · by_cases h2:y<2305843009213693951
      · have:=onS_some ⟨x,h1⟩ ⟨y,h2⟩ w
        have e:(toPt x y false).isSome=decide ((⟨y,h2⟩:Fp)*⟨y,h2⟩=crv ⟨x,h1⟩):=by
          unfold toPt;rw [if_neg (by decide),dif_pos ⟨h1,h2⟩];split
          · rename_i h;rw [decide_eq_true h];rfl
          · rename_i h;rw [decide_eq_false h];rfl
        rw [e];exact this
      · have:=onS_bigy x y w (by omega) (by omega)
        have e:(toPt x y false).isSome=false:=by
          unfold toPt;rw [if_neg (by decide),dif_neg (fun h=>h2 h.2)];rfl
        rw [e];exact this
    · have:=onS_bigx x y w (by omega)
      have e:(toPt x y false).isSome=false:=by
        unfold toPt;rw [if_neg (by decide),dif_neg (fun h=>h1 h.1)];rfl
      rw [e];exact this
  · have:=onS_inf x y w
    have e:(toPt x y true).isSome=decide (x=0∧y=0):=by
      unfold toPt;rw [if_pos rfl];split
      · rename_i h;rw [decide_eq_true h];rfl
      · rename_i h;rw [decide_eq_false h];rfl
    rw [e];exact this
end
end Go.Proofs.Ytnfbfpegagcanaa
