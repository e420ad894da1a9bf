import Derived.Test.YtmjniccfjffclaaGreatDoorMrg17
set_option linter.unusedVariables false
set_option maxRecDepth 100000
set_option maxHeartbeats 16000000
namespace Go.Proofs.YtmjniccfjffclaaGreatDoor
open Go.Proofs.Tryz Go.RowKit
open Go.Value (int)
open Go.IntKind (u64)
section
open M
noncomputable def toPt (x y:Nat) (b:Bool):Option Pt:=
  if b=true then (if x=0∧y=0 then some none else none)
  else if h:x<2305843009213693951∧y<2305843009213693951 then
    (if (⟨y,h.2⟩:Fp)*⟨y,h.2⟩=crv ⟨x,h.1⟩ then some (some (⟨x,h.1⟩,⟨y,h.2⟩)) else none)
  else none
theorem toPt_on {x y:Nat}{b:Bool}{p:Pt}(h:toPt x y b=some p):on p:=by
  unfold toPt at h;split at h
  · split at h
    · cases h;trivial
    · cases h
  · split at h
    · split at h
      · cases h;assumption
      · cases h
    · cases h
theorem toPt_W {x y:Nat}{b:Bool}{p:Pt}(h:toPt x y b=some p):(.agg #[int u64 x,int u64 y,.bool b]:Value)=ptW p:=by
  unfold toPt at h;split at h
  · split at h
    · rename_i hb hxy
      obtain⟨rfl,rfl⟩:=hxy;subst hb;cases h;rfl
    · cases h
  · split at h
    · split at h
      · rename_i hb _ _
        have hb':b=false:=by simpa using hb
        subst hb';cases h;rfl
      · cases h
    · cases h
noncomputable def asPt (x y:Nat) (b:Bool):Pt:=(toPt x y b).getD none
theorem asPt_on (x y:Nat)(b:Bool):on (asPt x y b):=by
  unfold asPt
  cases h:toPt x y b with
  |none=>trivial
  |some p=>exact toPt_on h
theorem asPt_some {x y:Nat}{b:Bool}{p:Pt}(h:toPt x y b=some p):asPt x y b=p:=by unfold asPt;rw [h];rfl
theorem onS_some (x y:Fp)(w:World):
    Cr 48 #[.agg #[int u64 (x.val:Nat),int u64 (y.val:Nat),.bool false]] w (.bool (decide (y*y=crv x))):=by
  have hx:=val_lt x;have hy:=val_lt y
  have e:decide (y*y=crv x)=(((y*y).val:Int)==((crv x).val:Int)):=by
    rw [Bool.eq_iff_iff];simp [Fin.ext_iff];omega
  have L1:=fun w=>fmul_v (w:=w) y y
  have L2:=fun w=>rightS (w:=w) x
  rw [e];clear e;generalize (y*y).val=r1 at*;generalize (crv x).val=r2 at*;generalize x.val=X at*;generalize y.val=Y at*;have hxi:(X:Int)<2305843009213693951:=by omega
  have hyi:(Y:Int)<2305843009213693951:=by omega
  clear hx hy;go_enter func48,ntmps48;go_wp2
  go_region_held3 (fun w'=>w'.cell? ⟨w.heap.size,0,none⟩=some (int u64 (X:Int))∧w'.cell? ⟨w.heap.size,1,none⟩=some (int u64 (Y:Int))) (go_keep) (first
    |(go_at_call 89;refine(L1 _).mono ?_;rintro e w' ⟨rfl,rfl⟩)
    |(go_at_call 90;refine(L2 _).mono ?_;rintro e w' ⟨rfl,rfl⟩))
  clear L1 L2;go_wp2;go_ret;exact⟨rfl,((Below.refl _ _).alloc (Nat.le_refl _) _).drew⟩
theorem onS_inf (x y:Nat)(w:World):
    Cr 48 #[.agg #[int u64 x,int u64 y,.bool true]] w (.bool (decide (x=0∧y=0))):=by
  have e:decide (x=0∧y=0)=(((x:Int)==0)&&((y:Int)==0)):=by
    rw [Bool.eq_iff_iff];simp
  rw [e];clear e;by_cases h:x=0
  · subst h;go_enter func48,ntmps48;go_wp2;go_ret;exact⟨rfl,(Below.refl _ _).alloc (Nat.le_refl _) _⟩
  · have h':((x:Int)==0)=false:=by simp;omega
    go_enter func48,ntmps48;go_wp2;go_ret;exact⟨by rw [h'];rfl,(Below.refl _ _).alloc (Nat.le_refl _) _⟩
theorem onS_bigx (x y:Int)(w:World)(h:2305843009213693951≤x):
    Cr 48 #[.agg #[int u64 x,int u64 y,.bool false]] w (.bool false):=by
  have h2:(x<2305843009213693951)=False:=by simp;omega
  have h3:decide (x<2305843009213693951)=false:=by simp;omega
  clear h;go_enter func48,ntmps48;go_wp2
  go_region
  go_wp2;go_ret;exact⟨rfl,((Below.refl _ _).alloc (Nat.le_refl _) _).drew⟩
theorem onS_bigy (x y:Int)(w:World)(h1:x<2305843009213693951)(h:2305843009213693951≤y):
    Cr 48 #[.agg #[int u64 x,int u64 y,.bool false]] w (.bool false):=by
  have h2:(y<2305843009213693951)=False:=by simp;omega
  have h3:decide (y<2305843009213693951)=false:=by simp;omega
  have h4:(x<2305843009213693951)=True:=by simp [h1]
  have h5:decide (x<2305843009213693951)=true:=by simp [h1]
  clear h h1;go_enter func48,ntmps48;go_wp2
  go_region
  go_wp2;go_ret;exact⟨rfl,((Below.refl _ _).alloc (Nat.le_refl _) _).drew⟩
theorem onS_any (x y:Nat)(b:Bool)(w:World):
    Cr 48 #[.agg #[int u64 x,int u64 y,.bool b]] w (.bool (toPt x y b).isSome):=by
  cases b
  · by_cases h1:x<2305843009213693951
    · by_cases h2:y<2305843009213693951
      · have:=onS_some ⟨x,h1⟩ ⟨y,h2⟩ w
        have e:(toPt x y false).isSome=decide ((⟨y,h2⟩:Fp)*⟨y,h2⟩=crv ⟨x,h1⟩):=by
          unfold toPt;rw [if_neg (by decide),dif_pos ⟨h1,h2⟩];split
          · rename_i h;rw [decide_eq_true h];rfl
          · rename_i h;rw [decide_eq_false h];rfl
        rw [e];exact this
      · have:=onS_bigy x y w (by omega) (by omega)
        have e:(toPt x y false).isSome=false:=by
          unfold toPt;rw [if_neg (by decide),dif_neg (fun h=>h2 h.2)];rfl
        rw [e];exact this
    · have:=onS_bigx x y w (by omega)
      have e:(toPt x y false).isSome=false:=by
        unfold toPt;rw [if_neg (by decide),dif_neg (fun h=>h1 h.1)];rfl
      rw [e];exact this
  · have:=onS_inf x y w
    have e:(toPt x y true).isSome=decide (x=0∧y=0):=by
      unfold toPt;rw [if_pos rfl];split
      · rename_i h;rw [decide_eq_true h];rfl
      · rename_i h;rw [decide_eq_false h];rfl
    rw [e];exact this
end
end Go.Proofs.YtmjniccfjffclaaGreatDoor
