import Derived.Test.YtjhbckngdclleaaGreatDoorMrg7
set_option linter.unusedVariables false
set_option maxRecDepth 100000
set_option maxHeartbeats 16000000
namespace Go.Proofs.YtjhbckngdclleaaGreatDoor
open Go.Proofs.Tryz Go.RowKit
open Go.Value (int)
open Go.IntKind (u64)
section
open M
theorem fields_of {x y:Nat}{c:Bool}{p:Pt}(h:toPt x y c=some p):(x:Int)=px p∧(y:Int)=py p∧c=pb p:=by
  have e:=toPt_W h;rw [ptW_eq] at e;injection e with e;injection e with e;simpa using e
theorem toPt_self {X Y:Fp}(h:on (some (X,Y))):toPt X.val Y.val false=some (some (X,Y)):=by
  unfold toPt;rw [if_neg (by decide),dif_pos ⟨X.isLt,Y.isLt⟩];exact if_pos h
theorem onS_some (x y:Fp)(w:World):
    Cr 70 #[.agg #[int u64 (x.val:Nat),int u64 (y.val:Nat),.bool false]] w (.bool (decide (y*y=crv x))):=by
  have hx:=val_lt x;have hy:=val_lt y
  have e:decide (y*y=crv x)=(((y*y).val:Int)==((crv x).val:Int)):=by
    rw [Bool.eq_iff_iff];simp [Fin.ext_iff];omega
  have L1:=fun w=>fmul_v (w:=w) y y
  have L2:=fun w=>rightS (w:=w) x
  rw [e];clear e;generalize (y*y).val=r1 at*;generalize (crv x).val=r2 at*;generalize x.val=X at*;generalize y.val=Y at*;have hxi:(X:Int)<2305843009213693951:=by omega
  have hyi:(Y:Int)<2305843009213693951:=by omega
  clear hx hy;go_enter func70,ntmps70;go_wp2
  go_region_held3 (fun w'=>w'.cell? ⟨w.heap.size,0,none⟩=some (int u64 (X:Int))∧w'.cell? ⟨w.heap.size,1,none⟩=some (int u64 (Y:Int))) (go_keep) (first
    |(go_at_call 127;refine(L1 _).mono ?_;rintro e w' ⟨rfl,rfl⟩)
    |(go_at_call 128;refine(L2 _).mono ?_;rintro e w' ⟨rfl,rfl⟩))
  clear L1 L2;go_wp2;go_ret;exact⟨rfl,((Below.refl _ _).alloc (Nat.le_refl _) _).drew⟩
theorem onS_inf (x y:Nat)(w:World):
    Cr 70 #[.agg #[int u64 x,int u64 y,.bool true]] w (.bool (decide (x=0∧y=0))):=by
  have e:decide (x=0∧y=0)=(((x:Int)==0)&&((y:Int)==0)):=by
    rw [Bool.eq_iff_iff];simp
  rw [e];clear e;by_cases h:x=0
  · subst h;go_enter func70,ntmps70;go_wp2;go_ret;exact⟨rfl,(Below.refl _ _).alloc (Nat.le_refl _) _⟩
  · have h':((x:Int)==0)=false:=by simp;omega
    go_enter func70,ntmps70;go_wp2;go_ret;exact⟨by rw [h'];rfl,(Below.refl _ _).alloc (Nat.le_refl _) _⟩
theorem onS_bigx (x y:Int)(w:World)(h:2305843009213693951≤x):
    Cr 70 #[.agg #[int u64 x,int u64 y,.bool false]] w (.bool false):=by
  have h2:(x<2305843009213693951)=False:=by simp;omega
  have h3:decide (x<2305843009213693951)=false:=by simp;omega
  clear h;go_enter func70,ntmps70;go_wp2
  go_region
  go_wp2;go_ret;exact⟨rfl,((Below.refl _ _).alloc (Nat.le_refl _) _).drew⟩
theorem onS_bigy (x y:Int)(w:World)(h1:x<2305843009213693951)(h:2305843009213693951≤y):
    Cr 70 #[.agg #[int u64 x,int u64 y,.bool false]] w (.bool false):=by
  have h2:(y<2305843009213693951)=False:=by simp;omega
  have h3:decide (y<2305843009213693951)=false:=by simp;omega
  have h4:(x<2305843009213693951)=True:=by simp [h1]
  have h5:decide (x<2305843009213693951)=true:=by simp [h1]
  clear h h1;go_enter func70,ntmps70;go_wp2
  go_region
  go_wp2;go_ret;exact⟨rfl,((Below.refl _ _).alloc (Nat.le_refl _) _).drew⟩
theorem onS_any (x y:Nat)(b:Bool)(w:World):
    Cr 70 #[.agg #[int u64 x,int u64 y,.bool b]] w (.bool (toPt x y b).isSome):=by
  cases b
  · by_cases h1:x<2305843009213693951
    · by_cases h2:y<2305843009213693951
      · have:=onS_some ⟨x,h1⟩ ⟨y,h2⟩ w
        have e:(toPt x y false).isSome=decide ((⟨y,h2⟩:Fp)*⟨y,h2⟩=crv ⟨x,h1⟩):=by
          unfold toPt;rw [if_neg (by decide),dif_pos ⟨h1,h2⟩];split
          · rename_i h;rw [decide_eq_true h];rfl
          · rename_i h;rw [decide_eq_false h];rfl
        rw [e];exact this
      · have:=onS_bigy x y w (by omega) (by omega)
        have e:(toPt x y false).isSome=false:=by
          unfold toPt;rw [if_neg (by decide),dif_neg (fun h=>h2 h.2)];rfl
        rw [e];exact this
    · have:=onS_bigx x y w (by omega)
      have e:(toPt x y false).isSome=false:=by
        unfold toPt;rw [if_neg (by decide),dif_neg (fun h=>h1 h.1)];rfl
      rw [e];exact this
  · have:=onS_inf x y w
    have e:(toPt x y true).isSome=decide (x=0∧y=0):=by
      unfold toPt;rw [if_pos rfl];split
      · rename_i h;rw [decide_eq_true h];rfl
      · rename_i h;rw [decide_eq_false h];rfl
    rw [e];exact this
end
theorem infoU8w:(prog.info? 5).map (fun i=>(i.zero,i.size,i.bytes))=some (some (.int .u8 0),1,1):=by kernel_rfl
theorem wordS_any (n:Nat)(w:World)(hn:n<18446744073709551616):
    Cr 102 #[int u64 n] w (.string (strOfNums (be8 n))):=by
  obtain⟨i0,hi,hz0,hz1,hz2⟩:=info_parts infoU8w;go_enter func102,ntmps102;go_wp2
  go_loopw [3,4] (fun v i wr=>∃j g cap:Nat,j≤8∧i= .int .i64 (7-(j:Int))∧v= .slice (some ⟨g,0,none⟩) j cap∧Row wr w.heap.size g j cap (((be8 n).take j).map (Value.int .u8))∧Bl w wr) (fun _ i _=>(intOf i+1).toNat)
  case atStart=>exact ⟨0,w.heap.size,0,by omega,rfl,rfl,Row.of_block (n:=0) (cs:=#[]) (heap_alloc_new w _) (Nat.le_refl _) (by simp) (by simp),(Below.refl _ _).alloc (Nat.le_refl _) _⟩
  case round=>
    obtain⟨j,g1,cap1,hj,rfl,rfl,hrow,hbl⟩:=hrel;have hsz1:w.heap.size≤wr.heap.size:=hbl.size;by_cases hlt:j<8
    · have hg0:(0:Int)≤7-(j:Int):=by omega
      go_wp2_with (first
        |(at_builtin;refine wpList_append_row rfl _ _ 35 rfl w.heap.size 5 i0 (.int .u8 0) 1 underlying35 hi hz0 hz1 hz2 rfl g1 j cap1 (((be8 n).take j).map (Value.int .u8)) rfl (hrow.alloc _) ⟨wr.heap.size,0,none⟩ 1 1 [.int .u8 (beAt n j)] rfl rfl (World.news_of_block (cs:=#[.int .u8 (beAt n j)]) (heap_alloc_new wr _)) (by simp [Value.oneCell']) (by unfold maxLen;omega) (by omega) (by simp;omega) _ rfl ?_;intro g3 cap3 w3 hrow3 hgr3 _ _)
        |go_in)
      go_roundw
      case rel=>
        have R1:Row w3 w.heap.size g3 (j+1) cap3 (((be8 n).take (j+1)).map (Value.int .u8)):=by
          rw [be8_take _ j hlt,List.map_append];exact hrow3
        have R2:Bl w w3:=(hbl.alloc hsz1 _).grown hgr3 (by simp;omega) (fun r hr=>by simp at hr;have:=hrow.lo;omega);have R3:Value.int .i64 (7-(j:Int)-1)=Value.int .i64 (7-((j+1:Nat):Int)):=by congr 1;omega
        first
          |exact ⟨j+1,g3,cap3,by omega,R3,rfl,R1,R2⟩
          |((repeat apply Exists.intro);exact⟨⟨j+1,g3,cap3,by omega,R3,rfl,R1,R2⟩,rfl⟩)
      case measure=>simp [intOf];omega
    · obtain rfl:j=8:=by omega
      have hrow':Row wr w.heap.size g1 8 cap1 ((be8 n).map (Value.int .u8)):=hrow;have hcv:=run_convert_bytes_arg (P:=prog) wr 35 5 underlying35 underlying5 g1 0 8 cap1 (be8 n) rfl (fun i h=>by rw [Nat.zero_add];exact hrow'.cell i h) 9 underlying9;go_wp2;go_ret;exact⟨rfl,hbl⟩
end Go.Proofs.YtjhbckngdclleaaGreatDoor
