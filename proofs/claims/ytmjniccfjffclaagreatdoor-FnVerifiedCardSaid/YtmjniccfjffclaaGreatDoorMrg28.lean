import Derived.Test.YtmjniccfjffclaaGreatDoorMrg26
import Derived.Test.YtmjniccfjffclaaGreatDoorMrg27
set_option linter.unusedVariables false
set_option maxRecDepth 100000
set_option maxHeartbeats 16000000
namespace Go.Proofs.YtmjniccfjffclaaGreatDoor
open Go.Proofs.Tryz Go.RowKit
open Go.Value (int)
open Go.IntKind (u64)
theorem cf_spec_l5Sized (args:Array Value)(w:World):(callFunc 62 args).run prog w= .ok (.enter 62 args) w:=by kernel_rfl
theorem cf_spec_PutPoint (args:Array Value)(w:World):(callFunc 95 args).run prog w= .ok (.enter 95 args) w:=by kernel_rfl
theorem cf_spec_l5Scalar (args:Array Value)(w:World):(callFunc 61 args).run prog w= .ok (.enter 61 args) w:=by kernel_rfl
theorem cf_spec_Times (args:Array Value)(w:World):(callFunc 15 args).run prog w= .ok (.enter 15 args) w:=by kernel_rfl
theorem cf_spec_l3Sum (args:Array Value)(w:World):(callFunc 49 args).run prog w= .ok (.enter 49 args) w:=by kernel_rfl
theorem cf_spec_l5Challenge (args:Array Value)(w:World):(callFunc 68 args).run prog w= .ok (.enter 68 args) w:=by kernel_rfl
theorem cf_impl_transcript_with (args:Array Value)(w:World):(callFunc 119 args).run prog w= .ok (.enter 119 args) w:=by kernel_rfl
theorem cf_impl_context_scalar (args:Array Value)(w:World):(callFunc 118 args).run prog w= .ok (.enter 118 args) w:=by kernel_rfl
theorem cf_impl_context_tag (args:Array Value)(w:World):(callFunc 123 args).run prog w= .ok (.enter 123 args) w:=by kernel_rfl
theorem cf_impl_hashOf (args:Array Value)(w:World):(callFunc 130 args).run prog w= .ok (.enter 130 args) w:=by kernel_rfl
theorem cf_impl_curvePoint_times (args:Array Value)(w:World):(callFunc 42 args).run prog w= .ok (.enter 42 args) w:=by kernel_rfl
theorem cf_impl_curvePoint_plus (args:Array Value)(w:World):(callFunc 82 args).run prog w= .ok (.enter 82 args) w:=by kernel_rfl
theorem cf_impl_curvePoint_triple (args:Array Value)(w:World):(callFunc 84 args).run prog w= .ok (.enter 84 args) w:=by kernel_rfl
theorem cf_impl_triple_multiple (args:Array Value)(w:World):(callFunc 85 args).run prog w= .ok (.enter 85 args) w:=by kernel_rfl
theorem cf_impl_triple_plus (args:Array Value)(w:World):(callFunc 117 args).run prog w= .ok (.enter 117 args) w:=by kernel_rfl
theorem cf_impl_weighted (args:Array Value)(w:World):(callFunc 116 args).run prog w= .ok (.enter 116 args) w:=by kernel_rfl
theorem cf_impl_batch_challenge (args:Array Value)(w:World):(callFunc 83 args).run prog w= .ok (.enter 83 args) w:=by kernel_rfl
section
open M
def zBld:Array Value:=#[int u64 0,int u64 0,.bool false,int u64 0,int u64 0,.bool false]
theorem sizeBld:(prog.info? 39).map (·.size)=some 6:=by kernel_rfl
theorem Bk.sets {W:World}{t:TypeId}{b:Nat}{cs:Array Value}(h:Bk W t b cs)(ds:List Value)(hl:ds.length=cs.size):Bk (W.setCells b 0 ds) t b ds.toArray:=by
  have:=setCells_full b t ds 0 W cs.toList (by unfold Bk at h;simpa using h) (by simp;omega);unfold Bk;rw [this];simp [hl,List.drop_eq_nil_of_le]
theorem sizePt3:(prog.info? 34).map (·.size)=some 3:=by kernel_rfl
theorem Bk.there3 {W:World}{t:TypeId}{b:Nat}{v0 v1 v2 v3 v4 v5:Value}(h:Bk W t b #[v0,v1,v2,v3,v4,v5]):W.there b 3 3:=fun j hj=>by
  rcases(show j=0∨j=1∨j=2 by omega) with rfl|rfl|rfl
  · exact⟨by rw [h.cell (k:=3) (v:=v3) rfl];rfl,h.frz _⟩
  · exact⟨by rw [h.cell (k:=4) (v:=v4) rfl];rfl,h.frz _⟩
  · exact⟨by rw [h.cell (k:=5) (v:=v5) rfl];rfl,h.frz _⟩
theorem Bk.set3 {W:World}{t:TypeId}{b:Nat}{v0 v1 v2 v3 v4 v5:Value}(h:Bk W t b #[v0,v1,v2,v3,v4,v5])(u3 u4 u5:Value):Bk (W.setCells b 3 [u3,u4,u5]) t b #[v0,v1,v2,u3,u4,u5]:=by
  have:=setCells_full b t [u3,u4,u5] 3 W [v0,v1,v2,v3,v4,v5] h (by simp);exact this
theorem Bk.setsO {W:World}{t:TypeId}{b b':Nat}{cs:Array Value}(h:Bk W t b cs)(hne:b≠b')(o:Nat)(ds:List Value):Bk (W.setCells b' o ds) t b cs:=
  (World.heap_setCells_other W b' o ds h.lt hne).trans h
theorem pu_f3 {A:Act}{w:World}{dst:Option Tmp}{ty:TypeId}{ps:String}{af:Array Edge}{gd:Option (Nat×Bool)}{x y:Operand}{b:Nat}{v0 v1 v2 v3 v4 v5 u3 u4 u5:Value}{T':TypeId}(hx:A.eval x= .pointer (some ⟨b,3,none⟩))(hy:A.eval y= .agg #[u3,u4,u5])(hr:w.heap[b]? =some (.cells #[v0,v1,v2,v3,v4,v5] T'))(h1:(#[u3,u4,u5]:Array Value).all (·.oneCell')=true):
    Does prog (Opr dst (.store 34 x y) ty ps af gd) A w fun _ w'=>Turned b (.cells #[v0,v1,v2,u3,u4,u5] T') w w':=by
  have hB:Bk w T' b #[v0,v1,v2,v3,v4,v5]:=hr
  have h:(execOp A.eval (Opr dst (.store 34 x y) ty ps af gd)).run prog w= .ok .skip (w.setCells b 3 [u3,u4,u5]):=by
    unfold execOp Opr;simp only [hx,hy,Instr.storeAt,Instr.sureAddr,Sem.run_bind,Sem.run_pure,Result.andThen_ok,run_storeVar_mid w b 3 34 #[u3,u4,u5] hB.there3 sizePt3 h1]
  refine does_skip h ⟨World.os_setCells w b 3 _,setCells_tape b _ 3 w,World.output_setCells w b 3 _,setCells_size b _ 3 w,hB.set3 u3 u4 u5,fun k hk=> ?_⟩;by_cases hlt:k<w.heap.size
  · exact World.heap_setCells_other w b 3 _ hlt hk
  · rw [Array.getElem?_eq_none (by rw [setCells_size];omega),Array.getElem?_eq_none (by omega)]
theorem zroS (w:World):
    Cr 47 #[] w (.agg #[int u64 0,int u64 0,.bool true]):=by
  go_enter func47,ntmps47;go_wp2;refine bodyPost_ret (v:= .agg #[int u64 0,int u64 0,.bool true]) (by simp [results,results47,go_sem]) rfl ⟨rfl,?_⟩;exact(Below.refl _ w).alloc (Nat.le_refl _) _
theorem cf_spec_l6Tweak (args:Array Value)(w:World):(callFunc 29 args).run prog w= .ok (.enter 29 args) w:=by kernel_rfl
theorem cf_spec_Base (args:Array Value)(w:World):(callFunc 16 args).run prog w= .ok (.enter 16 args) w:=by kernel_rfl
theorem bsG (w:World):Cr 16 #[] w (.agg #[int u64 (px gG),int u64 (py gG),.bool (pb gG)]):=by
  have:=baseS w;rwa [ptW_eq] at this
section
variable (mode x y k:Int)(c:Bool)(input info:ByteArray)(w:World)
theorem bldS_a
    (T:∀w,Calls prog 30 #[.int .i64 mode,.string input,.string info] w fun e w'=>e= .returned (.bool false)∧w=w'):
    Cr 17 #[.int .i64 mode,.string input,.string info,.agg #[int u64 x,int u64 y,.bool c],int u64 k] w (.tuple #[.agg #[int u64 0,int u64 0,.bool false,int u64 0,int u64 0,.bool false],.int .i64 1]):=by
  obtain⟨X,hX⟩:∃X,X=((w.alloc (Obj.cells #[int u64 x,int u64 y,.bool c] 34)).alloc (Obj.cells #[int u64 0,int u64 0,.bool false,int u64 0,int u64 0,.bool false] 39)).alloc (Obj.cells #[int u64 0,int u64 0,.bool false,int u64 0,int u64 0,.bool false] 39):=⟨_,rfl⟩;have r8:Bk X 34 w.heap.size #[int u64 x,int u64 y,.bool c]:=by rw [hX];exact((Bk.new _ _ _).alloc _).alloc _
  have r10:Bk X 39 (w.heap.size+1) #[int u64 0,int u64 0,.bool false,int u64 0,int u64 0,.bool false]:=by rw [hX];exact((Bk.new _ _ _).at (by simp)).alloc _
  have r12:Bk X 39 (w.heap.size+1+1) #[int u64 0,int u64 0,.bool false,int u64 0,int u64 0,.bool false]:=by rw [hX];exact(Bk.new _ _ _).at (by simp)
  have hb:Bl w X:=by rw [hX];exact(((Below.refl _ w).alloc (Nat.le_refl _) _).alloc (by simp) _).alloc (by simp;omega) _
  rw [hX] at r8 r10 r12 hb;clear hX;have p0:=r8.cell (k:=0) rfl;have p1:=r8.cell (k:=1) rfl;have p2:=r8.cell (k:=2) rfl;go_enter func17,ntmps17;go_wp2_with fail;refine(T _).mono ?_;rintro e w1 ⟨rfl,rfl⟩;clear T;have z0:=r12.cell (k:=0) rfl;have z1:=r12.cell (k:=1) rfl;have z2:=r12.cell (k:=2) rfl;have z3:=r12.cell (k:=3) rfl;have z4:=r12.cell (k:=4) rfl;have z5:=r12.cell (k:=5) rfl;have hth:=r10.there 6 (by decide);go_wp2_with (refine wpList_store_mid rfl 39 _ _ rfl (w.heap.size+1) 0 #[int u64 0,int u64 0,.bool false,int u64 0,int u64 0,.bool false] rfl rfl hth sizeBld (by kernel_rfl) ?_);exact bodyPost_ret (v:= .tuple #[.agg #[int u64 0,int u64 0,.bool false,int u64 0,int u64 0,.bool false],.int .i64 1]) (bk_res2 (fn:=Tryz.f17) (p:=10) (u:=11) results17 _ rfl (r10.sets _ rfl) underlying39 rfl sizeBld) rfl ⟨rfl,below_setCells hb (by omega) _ _⟩
theorem bldS_b
    (T:∀w,Calls prog 30 #[.int .i64 mode,.string input,.string info] w fun e w'=>e= .returned (.bool true)∧w=w')
    (E:Cc 32 #[.agg #[int u64 x,int u64 y,.bool c]] (.bool false)):
    Cr 17 #[.int .i64 mode,.string input,.string info,.agg #[int u64 x,int u64 y,.bool c],int u64 k] w (.tuple #[.agg #[int u64 0,int u64 0,.bool false,int u64 0,int u64 0,.bool false],.int .i64 1]):=by
  obtain⟨X,hX⟩:∃X,X=((w.alloc (Obj.cells #[int u64 x,int u64 y,.bool c] 34)).alloc (Obj.cells #[int u64 0,int u64 0,.bool false,int u64 0,int u64 0,.bool false] 39)).alloc (Obj.cells #[int u64 0,int u64 0,.bool false,int u64 0,int u64 0,.bool false] 39):=⟨_,rfl⟩;have r8:Bk X 34 w.heap.size #[int u64 x,int u64 y,.bool c]:=by rw [hX];exact((Bk.new _ _ _).alloc _).alloc _
  have r10:Bk X 39 (w.heap.size+1) #[int u64 0,int u64 0,.bool false,int u64 0,int u64 0,.bool false]:=by rw [hX];exact((Bk.new _ _ _).at (by simp)).alloc _
  have r12:Bk X 39 (w.heap.size+1+1) #[int u64 0,int u64 0,.bool false,int u64 0,int u64 0,.bool false]:=by rw [hX];exact(Bk.new _ _ _).at (by simp)
  have hb:Bl w X:=by rw [hX];exact(((Below.refl _ w).alloc (Nat.le_refl _) _).alloc (by simp) _).alloc (by simp;omega) _
  rw [hX] at r8 r10 r12 hb;clear hX;have p0:=r8.cell (k:=0) rfl;have p1:=r8.cell (k:=1) rfl;have p2:=r8.cell (k:=2) rfl;go_enter func17,ntmps17;go_wp2_with fail;refine(T _).mono ?_;rintro e w1 ⟨rfl,rfl⟩;clear T;go_wp2_with fail;refine(E _).mono ?_;rintro e w2 ⟨rfl,b1⟩;replace r8:=r8.keep b1;replace r10:=r10.keep b1;replace r12:=r12.keep b1;replace hb:=hb.tr b1;clear E b1 p0 p1 p2;have z0:=r12.cell (k:=0) rfl;have z1:=r12.cell (k:=1) rfl;have z2:=r12.cell (k:=2) rfl;have z3:=r12.cell (k:=3) rfl;have z4:=r12.cell (k:=4) rfl;have z5:=r12.cell (k:=5) rfl;have hth:=r10.there 6 (by decide);go_wp2_with (refine wpList_store_mid rfl 39 _ _ rfl (w.heap.size+1) 0 #[int u64 0,int u64 0,.bool false,int u64 0,int u64 0,.bool false] rfl rfl hth sizeBld (by kernel_rfl) ?_);exact bodyPost_ret (v:= .tuple #[.agg #[int u64 0,int u64 0,.bool false,int u64 0,int u64 0,.bool false],.int .i64 1]) (bk_res2 (fn:=Tryz.f17) (p:=10) (u:=11) results17 _ rfl (r10.sets _ rfl) underlying39 rfl sizeBld) rfl ⟨rfl,below_setCells hb (by omega) _ _⟩
theorem bldS_c
    (T:∀w,Calls prog 30 #[.int .i64 mode,.string input,.string info] w fun e w'=>e= .returned (.bool true)∧w=w')
    (E:Cc 32 #[.agg #[int u64 x,int u64 y,.bool c]] (.bool true))
    (K:∀w,Calls prog 31 #[int u64 k] w fun e w'=>e= .returned (.bool false)∧w=w'):
    Cr 17 #[.int .i64 mode,.string input,.string info,.agg #[int u64 x,int u64 y,.bool c],int u64 k] w (.tuple #[.agg #[int u64 0,int u64 0,.bool false,int u64 0,int u64 0,.bool false],.int .i64 1]):=by
  obtain⟨X,hX⟩:∃X,X=((w.alloc (Obj.cells #[int u64 x,int u64 y,.bool c] 34)).alloc (Obj.cells #[int u64 0,int u64 0,.bool false,int u64 0,int u64 0,.bool false] 39)).alloc (Obj.cells #[int u64 0,int u64 0,.bool false,int u64 0,int u64 0,.bool false] 39):=⟨_,rfl⟩;have r8:Bk X 34 w.heap.size #[int u64 x,int u64 y,.bool c]:=by rw [hX];exact((Bk.new _ _ _).alloc _).alloc _
  have r10:Bk X 39 (w.heap.size+1) #[int u64 0,int u64 0,.bool false,int u64 0,int u64 0,.bool false]:=by rw [hX];exact((Bk.new _ _ _).at (by simp)).alloc _
  have r12:Bk X 39 (w.heap.size+1+1) #[int u64 0,int u64 0,.bool false,int u64 0,int u64 0,.bool false]:=by rw [hX];exact(Bk.new _ _ _).at (by simp)
  have hb:Bl w X:=by rw [hX];exact(((Below.refl _ w).alloc (Nat.le_refl _) _).alloc (by simp) _).alloc (by simp;omega) _
  rw [hX] at r8 r10 r12 hb;clear hX;have p0:=r8.cell (k:=0) rfl;have p1:=r8.cell (k:=1) rfl;have p2:=r8.cell (k:=2) rfl;go_enter func17,ntmps17;go_wp2_with fail;refine(T _).mono ?_;rintro e w1 ⟨rfl,rfl⟩;clear T;go_wp2_with fail;refine(E _).mono ?_;rintro e w2 ⟨rfl,b1⟩;replace r8:=r8.keep b1;replace r10:=r10.keep b1;replace r12:=r12.keep b1;replace hb:=hb.tr b1;clear E b1 p0 p1 p2;go_wp2_with fail;refine(K _).mono ?_;rintro e w3 ⟨rfl,rfl⟩;clear K;have z0:=r12.cell (k:=0) rfl;have z1:=r12.cell (k:=1) rfl;have z2:=r12.cell (k:=2) rfl;have z3:=r12.cell (k:=3) rfl;have z4:=r12.cell (k:=4) rfl;have z5:=r12.cell (k:=5) rfl;have hth:=r10.there 6 (by decide);go_wp2_with (refine wpList_store_mid rfl 39 _ _ rfl (w.heap.size+1) 0 #[int u64 0,int u64 0,.bool false,int u64 0,int u64 0,.bool false] rfl rfl hth sizeBld (by kernel_rfl) ?_);exact bodyPost_ret (v:= .tuple #[.agg #[int u64 0,int u64 0,.bool false,int u64 0,int u64 0,.bool false],.int .i64 1]) (bk_res2 (fn:=Tryz.f17) (p:=10) (u:=11) results17 _ rfl (r10.sets _ rfl) underlying39 rfl sizeBld) rfl ⟨rfl,below_setCells hb (by omega) _ _⟩
theorem bldS_d (hx hy:Int)
    (T:∀w,Calls prog 30 #[.int .i64 mode,.string input,.string info] w fun e w'=>e= .returned (.bool true)∧w=w')
    (E:Cc 32 #[.agg #[int u64 x,int u64 y,.bool c]] (.bool true))
    (K:∀w,Calls prog 31 #[int u64 k] w fun e w'=>e= .returned (.bool true)∧w=w')
    (H:Cc 50 #[.int .i64 mode,.string input] (.agg #[int u64 hx,int u64 hy,.bool true])):
    Cr 17 #[.int .i64 mode,.string input,.string info,.agg #[int u64 x,int u64 y,.bool c],int u64 k] w (.tuple #[.agg #[int u64 0,int u64 0,.bool false,int u64 0,int u64 0,.bool false],.int .i64 2]):=by
  obtain⟨X,hX⟩:∃X,X=((w.alloc (Obj.cells #[int u64 x,int u64 y,.bool c] 34)).alloc (Obj.cells #[int u64 0,int u64 0,.bool false,int u64 0,int u64 0,.bool false] 39)).alloc (Obj.cells #[int u64 0,int u64 0,.bool false,int u64 0,int u64 0,.bool false] 39):=⟨_,rfl⟩;have r8:Bk X 34 w.heap.size #[int u64 x,int u64 y,.bool c]:=by rw [hX];exact((Bk.new _ _ _).alloc _).alloc _
  have r10:Bk X 39 (w.heap.size+1) #[int u64 0,int u64 0,.bool false,int u64 0,int u64 0,.bool false]:=by rw [hX];exact((Bk.new _ _ _).at (by simp)).alloc _
  have r12:Bk X 39 (w.heap.size+1+1) #[int u64 0,int u64 0,.bool false,int u64 0,int u64 0,.bool false]:=by rw [hX];exact(Bk.new _ _ _).at (by simp)
  have hb:Bl w X:=by rw [hX];exact(((Below.refl _ w).alloc (Nat.le_refl _) _).alloc (by simp) _).alloc (by simp;omega) _
  rw [hX] at r8 r10 r12 hb;clear hX;have p0:=r8.cell (k:=0) rfl;have p1:=r8.cell (k:=1) rfl;have p2:=r8.cell (k:=2) rfl;go_enter func17,ntmps17;go_wp2_with fail;refine(T _).mono ?_;rintro e w1 ⟨rfl,rfl⟩;clear T;go_wp2_with fail;refine(E _).mono ?_;rintro e w2 ⟨rfl,b1⟩;replace r8:=r8.keep b1;replace r10:=r10.keep b1;replace r12:=r12.keep b1;replace hb:=hb.tr b1;clear E b1 p0 p1 p2;go_wp2_with fail;refine(K _).mono ?_;rintro e w3 ⟨rfl,rfl⟩;clear K;go_wp2_with fail;refine(H _).mono ?_;rintro e w4 ⟨rfl,b1⟩;have hal:=balc w4 (Obj.cells #[int u64 hx,int u64 hy,.bool true] 34);have r13:=Bk.new w4 34 #[int u64 hx,int u64 hy,.bool true];replace r8:=(r8.keep b1).keep hal;replace r10:=(r10.keep b1).keep hal;replace r12:=(r12.keep b1).keep hal;replace hb:=hb.tr b1;replace hb:=hb.tr hal;clear H b1 hal;have h2:=r13.cell (k:=2) rfl;have z0:=r12.cell (k:=0) rfl;have z1:=r12.cell (k:=1) rfl;have z2:=r12.cell (k:=2) rfl;have z3:=r12.cell (k:=3) rfl;have z4:=r12.cell (k:=4) rfl;have z5:=r12.cell (k:=5) rfl;have hth:=r10.there 6 (by decide);go_wp2_with (refine wpList_store_mid rfl 39 _ _ rfl (w.heap.size+1) 0 #[int u64 0,int u64 0,.bool false,int u64 0,int u64 0,.bool false] rfl rfl hth sizeBld (by kernel_rfl) ?_);exact bodyPost_ret (v:= .tuple #[.agg #[int u64 0,int u64 0,.bool false,int u64 0,int u64 0,.bool false],.int .i64 2]) (bk_res2 (fn:=Tryz.f17) (p:=10) (u:=11) results17 _ rfl (r10.sets _ rfl) underlying39 rfl sizeBld) rfl ⟨rfl,below_setCells hb (by omega) _ _⟩
theorem bldS_e (hx hy ex ey:Int)(ec:Bool)(hm:(mode==2)=false)
    (T:∀w,Calls prog 30 #[.int .i64 mode,.string input,.string info] w fun e w'=>e= .returned (.bool true)∧w=w')
    (E:Cc 32 #[.agg #[int u64 x,int u64 y,.bool c]] (.bool true))
    (K:∀w,Calls prog 31 #[int u64 k] w fun e w'=>e= .returned (.bool true)∧w=w')
    (H:Cc 50 #[.int .i64 mode,.string input] (.agg #[int u64 hx,int u64 hy,.bool false]))
    (TM:Cc 15 #[int u64 k,.agg #[int u64 hx,int u64 hy,.bool false]] (.agg #[int u64 ex,int u64 ey,.bool ec])):
    Cr 17 #[.int .i64 mode,.string input,.string info,.agg #[int u64 x,int u64 y,.bool c],int u64 k] w (.tuple #[.agg #[int u64 ex,int u64 ey,.bool ec,int u64 0,int u64 0,.bool true],.int .i64 0]):=by
  obtain⟨X,hX⟩:∃X,X=((w.alloc (Obj.cells #[int u64 x,int u64 y,.bool c] 34)).alloc (Obj.cells #[int u64 0,int u64 0,.bool false,int u64 0,int u64 0,.bool false] 39)).alloc (Obj.cells #[int u64 0,int u64 0,.bool false,int u64 0,int u64 0,.bool false] 39):=⟨_,rfl⟩;have r8:Bk X 34 w.heap.size #[int u64 x,int u64 y,.bool c]:=by rw [hX];exact((Bk.new _ _ _).alloc _).alloc _
  have r10:Bk X 39 (w.heap.size+1) #[int u64 0,int u64 0,.bool false,int u64 0,int u64 0,.bool false]:=by rw [hX];exact((Bk.new _ _ _).at (by simp)).alloc _
  have r12:Bk X 39 (w.heap.size+1+1) #[int u64 0,int u64 0,.bool false,int u64 0,int u64 0,.bool false]:=by rw [hX];exact(Bk.new _ _ _).at (by simp)
  have hb:Bl w X:=by rw [hX];exact(((Below.refl _ w).alloc (Nat.le_refl _) _).alloc (by simp) _).alloc (by simp;omega) _
  rw [hX] at r8 r10 r12 hb;clear hX;have p0:=r8.cell (k:=0) rfl;have p1:=r8.cell (k:=1) rfl;have p2:=r8.cell (k:=2) rfl;go_enter func17,ntmps17;go_wp2_with fail;refine(T _).mono ?_;rintro e w1 ⟨rfl,rfl⟩;clear T;go_wp2_with fail;refine(E _).mono ?_;rintro e w2 ⟨rfl,b1⟩;replace r8:=r8.keep b1;replace r10:=r10.keep b1;replace r12:=r12.keep b1;replace hb:=hb.tr b1;clear E b1 p0 p1 p2;go_wp2_with fail;refine(K _).mono ?_;rintro e w3 ⟨rfl,rfl⟩;clear K;go_wp2_with fail;refine(H _).mono ?_;rintro e w4 ⟨rfl,b1⟩;have hl4:w.heap.size+1+1<w4.heap.size:=(r12.keep b1).lt;have hal:=balc w4 (Obj.cells #[int u64 hx,int u64 hy,.bool false] 34);have r13:=Bk.new w4 34 #[int u64 hx,int u64 hy,.bool false];replace r8:=(r8.keep b1).keep hal;replace r10:=(r10.keep b1).keep hal;replace r12:=(r12.keep b1).keep hal;replace hb:=hb.tr b1;replace hb:=hb.tr hal;clear H b1 hal;have h2:=r13.cell (k:=2) rfl;have h0:=r13.cell (k:=0) rfl;have h1:=r13.cell (k:=1) rfl;go_wp2_with fail;refine(TM _).mono ?_;rintro e w5 ⟨rfl,b1⟩;have hal:=balc w5 (Obj.cells #[int u64 ex,int u64 ey,.bool ec,int u64 0,int u64 0,.bool false] 39);have r14:=Bk.new w5 39 #[int u64 ex,int u64 ey,.bool ec,int u64 0,int u64 0,.bool false];replace r8:=(r8.keep b1).keep hal;replace r10:=(r10.keep b1).keep hal;replace r12:=(r12.keep b1).keep hal;have hl5:w.heap.size+1+1<w5.heap.size:=by have:=b1.size;simp at this;omega
  replace hb:=hb.tr b1;replace hb:=hb.tr hal;clear TM b1 hal h0 h1 h2 r13;go_wp2_with fail;refine(zroS _).mono ?_;rintro e w6 ⟨rfl,b1⟩;replace r8:=r8.keep b1;replace r10:=r10.keep b1;replace r12:=r12.keep b1;replace r14:=r14.keep b1;replace hb:=hb.tr b1;have ht3:=r14.there3;clear b1
  go_wp2_with (first
    | (refine wpList_store_mid rfl 34 _ _ rfl w5.heap.size 3 #[int u64 0,int u64 0,.bool true] rfl rfl ht3 sizePt3 (by kernel_rfl) ?_
       generalize hW1:World.setCells _ _ _ _=W1;have s14:Bk W1 39 w5.heap.size #[int u64 ex,int u64 ey,.bool ec,int u64 0,int u64 0,.bool true]:=by rw [←hW1];exact r14.set3 _ _ _
       have s10:Bk W1 39 (w.heap.size+1) #[int u64 0,int u64 0,.bool false,int u64 0,int u64 0,.bool false]:=by rw [←hW1];exact r10.setsO (by omega) _ _
       have s12:Bk W1 39 (w.heap.size+1+1) #[int u64 0,int u64 0,.bool false,int u64 0,int u64 0,.bool false]:=by rw [←hW1];exact r12.setsO (by omega) _ _
       have s8:Bk W1 34 w.heap.size #[int u64 x,int u64 y,.bool c]:=by rw [←hW1];exact r8.setsO (by omega) _ _
       have hb1:Bl w W1:=by rw [←hW1];exact below_setCells hb (by omega) _ _
       have z0:=s14.cell (k:=0) rfl;have z1:=s14.cell (k:=1) rfl;have z2:=s14.cell (k:=2) rfl;have z3:=s14.cell (k:=3) rfl;have z4:=s14.cell (k:=4) rfl;have z5:=s14.cell (k:=5) rfl;have hth:=s10.there 6 (by decide)
       clear hW1 ht3 r8 r10 r12 r14 hb)
    |(refine wpList_store_mid rfl 39 _ _ rfl (w.heap.size+1) 0 #[int u64 ex,int u64 ey,.bool ec,int u64 0,int u64 0,.bool true] rfl rfl hth sizeBld (by kernel_rfl) ?_))
  exact bodyPost_ret (v:= .tuple #[.agg #[int u64 ex,int u64 ey,.bool ec,int u64 0,int u64 0,.bool true],.int .i64 0]) (bk_res2 (fn:=Tryz.f17) (p:=10) (u:=11) results17 _ rfl (s10.sets _ rfl) underlying39 rfl sizeBld) rfl ⟨rfl,below_setCells hb1 (by omega) _ _⟩
theorem bldS_f (hx hy ex ey tk ux uy tx ty:Int)(ec uc tc:Bool)(hm:mode=2)
    (T:∀w,Calls prog 30 #[.int .i64 mode,.string input,.string info] w fun e w'=>e= .returned (.bool true)∧w=w')
    (E:Cc 32 #[.agg #[int u64 x,int u64 y,.bool c]] (.bool true))
    (K:∀w,Calls prog 31 #[int u64 k] w fun e w'=>e= .returned (.bool true)∧w=w')
    (H:Cc 50 #[.int .i64 mode,.string input] (.agg #[int u64 hx,int u64 hy,.bool false]))
    (TM:Cc 15 #[int u64 k,.agg #[int u64 hx,int u64 hy,.bool false]] (.agg #[int u64 ex,int u64 ey,.bool ec]))
    (TW:Cc 29 #[.string info] (int u64 tk))
    (TB:Cc 15 #[int u64 tk,.agg #[int u64 (px gG),int u64 (py gG),.bool (pb gG)]] (.agg #[int u64 ux,int u64 uy,.bool uc]))
    (SU:Cc 49 #[.agg #[int u64 ux,int u64 uy,.bool uc],.agg #[int u64 x,int u64 y,.bool c]] (.agg #[int u64 tx,int u64 ty,.bool tc])):
    Cr 17 #[.int .i64 mode,.string input,.string info,.agg #[int u64 x,int u64 y,.bool c],int u64 k] w (.tuple #[.agg (if tc=true then #[int u64 0,int u64 0,.bool false,int u64 0,int u64 0,.bool false] else #[int u64 ex,int u64 ey,.bool ec,int u64 tx,int u64 ty,.bool tc]),.int .i64 (if tc=true then 3 else 0)]):=by
  have hm2:(mode==2)=true:=by simpa using hm
  clear hm;obtain⟨V,hV⟩:∃V,Hid (V=(if tc=true then #[int u64 0,int u64 0,.bool false,int u64 0,int u64 0,.bool false] else #[int u64 ex,int u64 ey,.bool ec,int u64 tx,int u64 ty,.bool tc]:Array Value)):=⟨_,rfl⟩;obtain⟨Cd,hC⟩:∃Cd:Int,Hid (Cd=(if tc=true then 3 else 0)):=⟨_,rfl⟩;rw [←hV.out,←hC.out];obtain⟨X,hX⟩:∃X,X=((w.alloc (Obj.cells #[int u64 x,int u64 y,.bool c] 34)).alloc (Obj.cells #[int u64 0,int u64 0,.bool false,int u64 0,int u64 0,.bool false] 39)).alloc (Obj.cells #[int u64 0,int u64 0,.bool false,int u64 0,int u64 0,.bool false] 39):=⟨_,rfl⟩;have r8:Bk X 34 w.heap.size #[int u64 x,int u64 y,.bool c]:=by rw [hX];exact((Bk.new _ _ _).alloc _).alloc _
  have r10:Bk X 39 (w.heap.size+1) #[int u64 0,int u64 0,.bool false,int u64 0,int u64 0,.bool false]:=by rw [hX];exact((Bk.new _ _ _).at (by simp)).alloc _
  have r12:Bk X 39 (w.heap.size+1+1) #[int u64 0,int u64 0,.bool false,int u64 0,int u64 0,.bool false]:=by rw [hX];exact(Bk.new _ _ _).at (by simp)
  have hb:Bl w X:=by rw [hX];exact(((Below.refl _ w).alloc (Nat.le_refl _) _).alloc (by simp) _).alloc (by simp;omega) _
  rw [hX] at r8 r10 r12 hb;clear hX;have p0:=r8.cell (k:=0) rfl;have p1:=r8.cell (k:=1) rfl;have p2:=r8.cell (k:=2) rfl;go_enter func17,ntmps17;go_wp2_with fail;refine(T _).mono ?_;rintro e w1 ⟨rfl,rfl⟩;clear T;go_wp2_with fail;refine(E _).mono ?_;rintro e w2 ⟨rfl,b1⟩;replace r8:=r8.keep b1;replace r10:=r10.keep b1;replace r12:=r12.keep b1;replace hb:=hb.tr b1;clear E b1 p0 p1 p2;go_wp2_with fail;refine(K _).mono ?_;rintro e w3 ⟨rfl,rfl⟩;clear K;go_wp2_with fail;refine(H _).mono ?_;rintro e w4 ⟨rfl,b1⟩;have hl4:w.heap.size+1+1<w4.heap.size:=(r12.keep b1).lt;have hal:=balc w4 (Obj.cells #[int u64 hx,int u64 hy,.bool false] 34);have r13:=Bk.new w4 34 #[int u64 hx,int u64 hy,.bool false];replace r8:=(r8.keep b1).keep hal;replace r10:=(r10.keep b1).keep hal;replace r12:=(r12.keep b1).keep hal;replace hb:=hb.tr b1;replace hb:=hb.tr hal;clear H b1 hal;have h2:=r13.cell (k:=2) rfl;have h0:=r13.cell (k:=0) rfl;have h1:=r13.cell (k:=1) rfl;go_wp2_with fail;refine(TM _).mono ?_;rintro e w5 ⟨rfl,b1⟩;have hal:=balc w5 (Obj.cells #[int u64 ex,int u64 ey,.bool ec,int u64 0,int u64 0,.bool false] 39);have r14:=Bk.new w5 39 #[int u64 ex,int u64 ey,.bool ec,int u64 0,int u64 0,.bool false];replace r8:=(r8.keep b1).keep hal;replace r10:=(r10.keep b1).keep hal;replace r12:=(r12.keep b1).keep hal;have hl5:w.heap.size+1+1<w5.heap.size:=by have:=b1.size;simp at this;omega
  replace hb:=hb.tr b1;replace hb:=hb.tr hal;clear TM b1 hal h0 h1 h2 r13;go_wp2_with fail;refine(zroS _).mono ?_;rintro e w6 ⟨rfl,b1⟩;replace r8:=r8.keep b1;replace r10:=r10.keep b1;replace r12:=r12.keep b1;replace r14:=r14.keep b1;replace hb:=hb.tr b1;have ht3:=r14.there3;clear b1
  go_wp2_with (first
    | (refine wpList_store_mid rfl 34 _ _ rfl w5.heap.size 3 #[int u64 0,int u64 0,.bool true] rfl rfl ht3 sizePt3 (by kernel_rfl) ?_
       generalize hW1:World.setCells _ _ _ _=W1;have s14:Bk W1 39 w5.heap.size #[int u64 ex,int u64 ey,.bool ec,int u64 0,int u64 0,.bool true]:=by rw [←hW1];exact r14.set3 _ _ _
       have s10:Bk W1 39 (w.heap.size+1) #[int u64 0,int u64 0,.bool false,int u64 0,int u64 0,.bool false]:=by rw [←hW1];exact r10.setsO (by omega) _ _
       have s12:Bk W1 39 (w.heap.size+1+1) #[int u64 0,int u64 0,.bool false,int u64 0,int u64 0,.bool false]:=by rw [←hW1];exact r12.setsO (by omega) _ _
       have s8:Bk W1 34 w.heap.size #[int u64 x,int u64 y,.bool c]:=by rw [←hW1];exact r8.setsO (by omega) _ _
       have hb1:Bl w W1:=by rw [←hW1];exact below_setCells hb (by omega) _ _
       have z0:=s14.cell (k:=0) rfl;have z1:=s14.cell (k:=1) rfl;have z2:=s14.cell (k:=2) rfl;have z3:=s14.cell (k:=3) rfl;have z4:=s14.cell (k:=4) rfl;have z5:=s14.cell (k:=5) rfl;have hth:=s10.there 6 (by decide)
       clear hW1 ht3 r8 r10 r12 r14 hb))
  clear z0 z1 z2 z3 z4 z5 hth;generalize w5.heap.size=BB at*;have q0:W1.drew.cell? ⟨w.heap.size,0,none⟩=_:=s8.cell (k:=0) rfl;have q1:W1.drew.cell? ⟨w.heap.size,1,none⟩=_:=s8.cell (k:=1) rfl;have q2:W1.drew.cell? ⟨w.heap.size,2,none⟩=_:=s8.cell (k:=2) rfl;have n0:w.heap.size∉ [BB]:=fun h=>absurd (List.mem_singleton.1 h) (by omega)
  have l1:BB<W1.drew.heap.size:=s14.lt
  refine G.pool_list (W:=W1) [BB] [.val (.string info),
      .val (int u64 tk),
      .val (.agg #[int u64 (px gG),int u64 (py gG),.bool (pb gG)]),
      .val (.agg #[int u64 ux,int u64 uy,.bool uc]),
      .val (.agg #[int u64 x,int u64 y,.bool c]),
      .val (.agg #[int u64 tx,int u64 ty,.bool tc]),
      .val (.pointer (some ⟨BB,3,none⟩)),
      .set (BB) (.cells #[int u64 ex,int u64 ey,.bool ec,int u64 0,int u64 0,.bool true] 39) (.cells #[int u64 ex,int u64 ey,.bool ec,int u64 tx,int u64 ty,.bool tc] 39)] [[2],[47],[],[48,49],[8],[50,51],[14],[53,52]] (fun f=> [(some 47,.string info),(some 48,int u64 tk),(some 49,.agg #[int u64 (px gG),int u64 (py gG),.bool (pb gG)]),(some 50,.agg #[int u64 ux,int u64 uy,.bool uc]),(some 51,.agg #[int u64 x,int u64 y,.bool c]),(some 52,.agg #[int u64 tx,int u64 ty,.bool tc]),(some 53,.pointer (some ⟨BB,3,none⟩)),(none,undef)]) (by kernel_rfl) (by kernel_rfl) (by kernel_rfl) (by kernel_rfl) (fun _=>by kernel_rfl) (G.last_of [.cells #[int u64 ex,int u64 ey,.bool ec,int u64 0,int u64 0,.bool true] 39] (fun F R hm=>by simp at hm) (fun ob ob' k hm=>by simp at hm) (fun b ob ob' hm=>by simp at hm;simp [hm])) (fun b ob ob' hm=>by simp at hm;obtain⟨rfl,rfl,-⟩:=hm;exact s14) ?_ ?_
  · intro ix hix
    match ix,hix with
    |0,_=>exact G.obv [(2,.string info)] rfl rfl (fun A w ⟨e0,_⟩ hB=>doV_move e0)
    |1,_=>exact G.obv [(47,.string info)] rfl rfl (fun A w ⟨e0,_⟩ hB=>cl1 cf_spec_l6Tweak e0 (TW w))
    |2,_=>exact G.obv [] rfl rfl (fun A w _ hB=>cl0 cf_spec_Base (bsG w))
    |3,_=>exact G.obv [(48,int u64 tk),(49,.agg #[int u64 (px gG),int u64 (py gG),.bool (pb gG)])] rfl rfl (fun A w ⟨e0,e1,_⟩ hB=>cl2 cf_spec_Times e0 e1 (TB w))
    |4,_=>exact G.obv [(8,.pointer (some ⟨w.heap.size,0,none⟩))] rfl rfl (fun A w ⟨e0,_⟩ hB=>ld_pt e0 (hB.cell q0 n0) (hB.cell q1 n0) (hB.cell q2 n0))
    |5,_=>exact G.obv [(50,.agg #[int u64 ux,int u64 uy,.bool uc]),(51,.agg #[int u64 x,int u64 y,.bool c])] rfl rfl (fun A w ⟨e0,e1,_⟩ hB=>cl2 cf_spec_l3Sum e0 e1 (SU w))
    |6,_=>exact G.obv [(14,.pointer (some ⟨BB,0,none⟩))] rfl rfl (fun A w ⟨e0,_⟩ hB=>fa_bld1 e0)
    |7,_=>exact G.ob_set (fun f=> [(53,.pointer (some ⟨BB,3,none⟩)),(52,.agg #[int u64 tx,int u64 ty,.bool tc])]) rfl rfl rfl (by simp) l1 (fun j ob1 ob2 h=>by (rcases j with _|_|_|_|_|_|_|_|j)<;>simp [G.kindOf] at h⊢ <;>omega) (fun _=>by kernel_rfl) (fun f A w ⟨e0,e1,_⟩ hh hr=>pu_f3 e0 e1 hr (by kernel_rfl))
    |ix+8,h=>exact absurd h (by simp)
  intro f W3 hS _ _ _ hset;have r14:Bk W3 39 BB #[int u64 ex,int u64 ey,.bool ec,int u64 tx,int u64 ty,.bool tc]:=hset 7 _ _ _ rfl (by decide);have k10:Bk W3 39 (w.heap.size+1) #[int u64 0,int u64 0,.bool false,int u64 0,int u64 0,.bool false]:=(hS.block _ s10.lt (fun h=>absurd (List.mem_singleton.1 h) (by omega))).trans s10;have k12:Bk W3 39 (w.heap.size+1+1) #[int u64 0,int u64 0,.bool false,int u64 0,int u64 0,.bool false]:=(hS.block _ s12.lt (fun h=>absurd (List.mem_singleton.1 h) (by omega))).trans s12;have hb3:Bl w W3:=hS.under hb1.drew (by intro b h;rw [List.mem_singleton.1 h];omega) hb1.size;clear hset hS q0 q1 q2 s8 s10 s12 s14 hb1 TW TB SU;have hth:=k10.there 6 (by decide);have t5:=r14.cell (k:=5) rfl;simp only [puts,List.foldl,Act.put,List.setIfInBounds_toArray,List.set_cons_zero,List.set_cons_succ]
  cases tc with
  | true=>
    have z0:=k12.cell (k:=0) rfl;have z1:=k12.cell (k:=1) rfl;have z2:=k12.cell (k:=2) rfl;have z3:=k12.cell (k:=3) rfl;have z4:=k12.cell (k:=4) rfl;have z5:=k12.cell (k:=5) rfl;go_wp2_with (refine wpList_store_mid rfl 39 _ _ rfl (w.heap.size+1) 0 #[int u64 0,int u64 0,.bool false,int u64 0,int u64 0,.bool false] rfl rfl hth sizeBld (by kernel_rfl) ?_);exact bodyPost_ret (v:= .tuple #[.agg #[int u64 0,int u64 0,.bool false,int u64 0,int u64 0,.bool false],.int .i64 3]) (bk_res2 (fn:=Tryz.f17) (p:=10) (u:=11) results17 _ rfl (k10.sets _ rfl) underlying39 rfl sizeBld) rfl ⟨by rw [hV.out,hC.out];rfl,below_setCells hb3 (by omega) _ _⟩
  | false=>
    clear t5;have z0:=r14.cell (k:=0) rfl;have z1:=r14.cell (k:=1) rfl;have z2:=r14.cell (k:=2) rfl;have z3:=r14.cell (k:=3) rfl;have z4:=r14.cell (k:=4) rfl;have z5:=r14.cell (k:=5) rfl;go_wp2_with (refine wpList_store_mid rfl 39 _ _ rfl (w.heap.size+1) 0 #[int u64 ex,int u64 ey,.bool ec,int u64 tx,int u64 ty,.bool false] rfl rfl hth sizeBld (by kernel_rfl) ?_);exact bodyPost_ret (v:= .tuple #[.agg #[int u64 ex,int u64 ey,.bool ec,int u64 tx,int u64 ty,.bool false],.int .i64 0]) (bk_res2 (fn:=Tryz.f17) (p:=10) (u:=11) results17 _ rfl (k10.sets _ rfl) underlying39 rfl sizeBld) rfl ⟨by rw [hV.out,hC.out];rfl,below_setCells hb3 (by omega) _ _⟩
end
end
section
open Go.ChangeShapes Go.WideShapes Go.ChangeAt Go.Deep
theorem Bk.thereAt {W:World}{t:TypeId}{b:Nat}{cs:Array Value}(h:Bk W t b cs)(o n:Nat)(hn:o+n≤cs.size):W.there b o n:=fun j hj=>
  ⟨by rw [h.cell (k:=o+j) (v:=cs[o+j]'(by omega)) (Array.getElem?_eq_getElem (by omega))];rfl,h.frz _⟩
theorem Bk.part {W:World}{t:TypeId}{b:Nat}{cs:List Value}(h:Bk W t b cs.toArray)(o:Nat)(vs:List Value)(hl:o+vs.length≤cs.length):Bk (W.setCells b o vs) t b (cs.take o++vs++cs.drop (o+vs.length)).toArray:=setCells_full b t vs o W cs h hl
theorem sizeEvd:(prog.info? 30).map (·.size)=some 3:=by kernel_rfl
theorem sizePrf:(prog.info? 28).map (·.size)=some 2:=by kernel_rfl
theorem infoP3:(prog.info? 34).map (fun i=>(i.zero,i.size,i.bytes))=some (some (.agg #[int u64 0,int u64 0,.bool false]),3,24):=by kernel_rfl
end
section
open M
section
variable {W W':World}{base base':Nat}{e e':TypeId}{s s':Nat}{v v':Value}{n n':Nat}{xs xs':List Value}
theorem own_ne_bk (h:W.ownsRow base e s v n xs){t:TypeId}{b:Nat}{cs:Array Value}(hb:Bk W t b cs)(hne:e≠t):some b≠v.ownBlock:=by
  rcases h.2 with ⟨rfl,_⟩|⟨g,cap,cur,rfl,-,hg,-⟩
  · simp [Value.ownBlock]
  · intro e1;have:b=g:=by simpa [Value.ownBlock] using e1
    subst this;unfold Bk at hb;rw [hb] at hg;injection hg with hg;injection hg with _ h2;exact hne h2.symm
theorem Bk.grown {t:TypeId}{b:Nat}{cs:Array Value}{row:Option Nat}(h:Bk W t b cs)(hg:W.grownBy W' row)(hne:some b≠row):Bk W' t b cs:=(hg.block b h.lt hne).trans h
theorem grown_set (W:World)(b i:Nat)(x:Value):W.grownBy (W.setCell ⟨b,i,none⟩ x) (some b):=⟨rfl,rfl,rfl,by simp,fun k _ hk=>heap_setCell_other W ⟨b,i,none⟩ k x (fun e=>hk (by simp [e]))⟩
theorem own_set (h:W.ownsRow base e s v n xs){b:Nat}(hne:some b≠v.ownBlock)(i:Nat)(x:Value):(W.setCell ⟨b,i,none⟩ x).ownsRow base e s v n xs:=
  h.kept (grown_set W b i x) (.inr (fun e=>hne e.symm))
theorem onev (h:W.ownsRow base e s v n xs)(a b:Int):(#[v,int u64 a,int u64 b]:Array Value).all (·.oneCell')=true:=by
  rcases h.2 with ⟨rfl,_⟩|⟨g,cap,cur,rfl,-⟩<;>simp [Value.oneCell']
theorem grown_sets (W:World)(b o:Nat)(ds:List Value):W.grownBy (W.setCells b o ds) (some b):=
  ⟨World.os_setCells W b o ds,setCells_tape b ds o W,World.output_setCells W b o ds,by rw [setCells_size];exact Nat.le_refl _,fun k hk hne=>World.heap_setCells_other W b o ds hk (fun e=>hne (by rw [e]))⟩
theorem own_sets (h:W.ownsRow base e s v n xs){b:Nat}(hne:some b≠v.ownBlock)(o:Nat)(ds:List Value):(W.setCells b o ds).ownsRow base e s v n xs:=
  h.kept (grown_sets W b o ds) (.inr (fun e=>hne e.symm))
end
section
variable {P:Program}{ops:Array Oper}{Q:Exit→Act→World→Prop}{md:Region.Mode}
theorem last_do3 {fuel:Nat}{l:Array Bool}{A:Act}{w:World}(p q r:Nat){op oq or':Oper}(hf:3≤fuel)
    (hr:Region.ready md ops l= [p])(hrp:Region.ready md ops (l.setIfInBounds p true)= [q])
    (hpq:Region.ready md ops ((l.setIfInBounds p true).setIfInBounds q true)= [r])
    (hpr:Region.ready md ops (((l.setIfInBounds p true).setIfInBounds q true).setIfInBounds r true)= [])
    (hop:ops[p]? =some op)(hgp:op.guard=none)(hoq:ops[q]? =some oq)(hgq:oq.guard=none)(hor:ops[r]? =some or')(hgr:or'.guard=none){R:Value→World→Prop}{R2:Value→World→Value→World→Prop}
    (dp:Does P op A w R)(fq:∀v w',R v w'→Does P oq (A.put op.dst v) w' (R2 v w'))
    (fr:∀v w' v2 w2,R v w'→R2 v w' v2 w2→Does P or' ((A.put op.dst v).put oq.dst v2) w2 fun v3 w3=>Q .normal (((A.put op.dst v).put oq.dst v2).put or'.dst v3) w3):wpAny P md ops Q fuel l A w:=by
  obtain⟨n,rfl⟩:∃n,fuel=n+1+1+1:=⟨fuel-3,by omega⟩;refine⟨fun h=>(by rw [hr] at h;cases h),fun i hi=> ?_⟩;rw [hr] at hi;obtain rfl:=List.mem_singleton.1 hi;refine op_go hop hgp dp ?_;intro v w' hv;refine⟨fun h=>(by rw [hrp] at h;cases h),fun i hi=> ?_⟩;rw [hrp] at hi;obtain rfl:=List.mem_singleton.1 hi;refine op_go hoq hgq (fq v w' hv) ?_;intro v2 w2 h2;refine⟨fun h=>(by rw [hpq] at h;cases h),fun i hi=> ?_⟩;rw [hpq] at hi;obtain rfl:=List.mem_singleton.1 hi;refine op_go hor hgr (fr v w' v2 w2 hv h2) ?_;intro v3 w3 h3
  cases n with
  |zero=>exact ⟨hpr,h3⟩
  |succ n=>exact ⟨fun _=>h3,fun i hi=>by rw [hpr] at hi;cases hi⟩
end
end
end Go.Proofs.YtmjniccfjffclaaGreatDoor
