import Derived.Test.YtjmhmajfkdglnabGreatDoorMrg28
set_option linter.unusedVariables false
set_option maxRecDepth 100000
set_option maxHeartbeats 16000000
namespace Go.Proofs.YtjmhmajfkdglnabGreatDoor
open Go.Proofs.Tryz Go.RowKit
open Go.Value (int)
open Go.IntKind (u64)
theorem exN_any (k:Nat)(w:World):
    Cr 50 #[int u64 k,.agg #[]] w (.tuple #[.agg #[int u64 (if k<2305843010818082053 then (k:Int) else 0)],.bool (decide (k<2305843010818082053))]):=by
  by_cases h:k<2305843010818082053
  · rw [if_pos h,decide_eq_true h];exact exN_less k w (by omega)
  · rw [if_neg h,decide_eq_false h];exact exN_more k w (by omega)
theorem G.Sides.under {S:List Nat}{W0 w w':World}{B:Nat}(h:G.Sides S W0 w')(hb:Below B w W0)(hS:∀b∈S,B≤b)(hB:B≤W0.heap.size):Below B w w':=
  hb.trans ⟨h.os,h.tape,h.output,h.size,fun k hk=>h.block k (Nat.lt_of_lt_of_le hk hB) (fun hm=>by have:=hS k hm;omega)⟩
theorem cf_spec_Times (args:Array Value)(w:World):(callFunc 7 args).run prog w= .ok (.enter 7 args) w:=by kernel_rfl
theorem cf_spec_l3Sum (args:Array Value)(w:World):(callFunc 28 args).run prog w= .ok (.enter 28 args) w:=by kernel_rfl
theorem cf_impl_transcript_with (args:Array Value)(w:World):(callFunc 109 args).run prog w= .ok (.enter 109 args) w:=by kernel_rfl
theorem cf_impl_context_scalar (args:Array Value)(w:World):(callFunc 126 args).run prog w= .ok (.enter 126 args) w:=by kernel_rfl
theorem cf_impl_context_tag (args:Array Value)(w:World):(callFunc 105 args).run prog w= .ok (.enter 105 args) w:=by kernel_rfl
theorem cf_impl_hashOf (args:Array Value)(w:World):(callFunc 110 args).run prog w= .ok (.enter 110 args) w:=by kernel_rfl
theorem cf_impl_curvePoint_times (args:Array Value)(w:World):(callFunc 71 args).run prog w= .ok (.enter 71 args) w:=by kernel_rfl
theorem cf_impl_curvePoint_plus (args:Array Value)(w:World):(callFunc 91 args).run prog w= .ok (.enter 91 args) w:=by kernel_rfl
theorem cf_impl_curvePoint_triple (args:Array Value)(w:World):(callFunc 106 args).run prog w= .ok (.enter 106 args) w:=by kernel_rfl
theorem cf_impl_triple_multiple (args:Array Value)(w:World):(callFunc 107 args).run prog w= .ok (.enter 107 args) w:=by kernel_rfl
theorem cf_impl_triple_plus (args:Array Value)(w:World):(callFunc 125 args).run prog w= .ok (.enter 125 args) w:=by kernel_rfl
theorem cf_impl_weighted (args:Array Value)(w:World):(callFunc 124 args).run prog w= .ok (.enter 124 args) w:=by kernel_rfl
theorem cf_impl_batch_weights (args:Array Value)(w:World):(callFunc 123 args).run prog w= .ok (.enter 123 args) w:=by kernel_rfl
theorem cf_impl_batch_challenge (args:Array Value)(w:World):(callFunc 92 args).run prog w= .ok (.enter 92 args) w:=by kernel_rfl
theorem cf_impl_number_impl_primeN_times (args:Array Value)(w:World):(callFunc 160 args).run prog w= .ok (.enter 160 args) w:=by kernel_rfl
theorem cf_impl_number_impl_primeN_minus (args:Array Value)(w:World):(callFunc 178 args).run prog w= .ok (.enter 178 args) w:=by kernel_rfl
section
open M
def zBld:Array Value:=#[int u64 0,int u64 0,.bool false,int u64 0,int u64 0,.bool false]
theorem sizeBld:(prog.info? 32).map (·.size)=some 6:=by kernel_rfl
theorem Bk.sets {W:World}{t:TypeId}{b:Nat}{cs:Array Value}(h:Bk W t b cs)(ds:List Value)(hl:ds.length=cs.size):Bk (W.setCells b 0 ds) t b ds.toArray:=by
  have:=setCells_full b t ds 0 W cs.toList (by unfold Bk at h;simpa using h) (by simp;omega);unfold Bk;rw [this];simp [hl,List.drop_eq_nil_of_le]
theorem sizePt3:(prog.info? 25).map (·.size)=some 3:=by kernel_rfl
theorem Bk.there3 {W:World}{t:TypeId}{b:Nat}{v0 v1 v2 v3 v4 v5:Value}(h:Bk W t b #[v0,v1,v2,v3,v4,v5]):W.there b 3 3:=fun j hj=>by
  rcases(show j=0∨j=1∨j=2 by omega) with rfl|rfl|rfl
  · exact⟨by rw [h.cell (k:=3) (v:=v3) rfl];rfl,h.frz _⟩
  · exact⟨by rw [h.cell (k:=4) (v:=v4) rfl];rfl,h.frz _⟩
  · exact⟨by rw [h.cell (k:=5) (v:=v5) rfl];rfl,h.frz _⟩
theorem Bk.set3 {W:World}{t:TypeId}{b:Nat}{v0 v1 v2 v3 v4 v5:Value}(h:Bk W t b #[v0,v1,v2,v3,v4,v5])(u3 u4 u5:Value):Bk (W.setCells b 3 [u3,u4,u5]) t b #[v0,v1,v2,u3,u4,u5]:=by
  have:=setCells_full b t [u3,u4,u5] 3 W [v0,v1,v2,v3,v4,v5] h (by simp);exact this
theorem Bk.setsO {W:World}{t:TypeId}{b b':Nat}{cs:Array Value}(h:Bk W t b cs)(hne:b≠b')(o:Nat)(ds:List Value):Bk (W.setCells b' o ds) t b cs:=
  (World.heap_setCells_other W b' o ds h.lt hne).trans h
theorem pu_f3 {A:Act}{w:World}{dst:Option Tmp}{ty:TypeId}{ps:String}{af:Array Edge}{gd:Option (Nat×Bool)}{x y:Operand}{b:Nat}{v0 v1 v2 v3 v4 v5 u3 u4 u5:Value}{T':TypeId}(hx:A.eval x= .pointer (some ⟨b,3,none⟩))(hy:A.eval y= .agg #[u3,u4,u5])(hr:w.heap[b]? =some (.cells #[v0,v1,v2,v3,v4,v5] T'))(h1:(#[u3,u4,u5]:Array Value).all (·.oneCell')=true):
    Does prog (Opr dst (.store 25 x y) ty ps af gd) A w fun _ w'=>Turned b (.cells #[v0,v1,v2,u3,u4,u5] T') w w':=by
  have hB:Bk w T' b #[v0,v1,v2,v3,v4,v5]:=hr
  have h:(execOp A.eval (Opr dst (.store 25 x y) ty ps af gd)).run prog w= .ok .skip (w.setCells b 3 [u3,u4,u5]):=by
    unfold execOp Opr;simp only [hx,hy,Instr.storeAt,Instr.sureAddr,Sem.run_bind,Sem.run_pure,Result.andThen_ok,run_storeVar_mid w b 3 25 #[u3,u4,u5] hB.there3 sizePt3 h1]
  refine does_skip h ⟨World.os_setCells w b 3 _,setCells_tape b _ 3 w,World.output_setCells w b 3 _,setCells_size b _ 3 w,hB.set3 u3 u4 u5,fun k hk=> ?_⟩;by_cases hlt:k<w.heap.size
  · exact World.heap_setCells_other w b 3 _ hlt hk
  · rw [Array.getElem?_eq_none (by rw [setCells_size];omega),Array.getElem?_eq_none (by omega)]
theorem zroS (w:World):
    Cr 26 #[] w (.agg #[int u64 0,int u64 0,.bool true]):=by
  go_enter func26,ntmps26;go_wp2;refine bodyPost_ret (v:= .agg #[int u64 0,int u64 0,.bool true]) (by simp [results,results26,go_sem]) rfl ⟨rfl,?_⟩;exact(Below.refl _ w).alloc (Nat.le_refl _) _
theorem cf_spec_l6Tweak (args:Array Value)(w:World):(callFunc 25 args).run prog w= .ok (.enter 25 args) w:=by kernel_rfl
theorem cf_spec_Base (args:Array Value)(w:World):(callFunc 8 args).run prog w= .ok (.enter 8 args) w:=by kernel_rfl
theorem bsG (w:World):Cr 8 #[] w (.agg #[int u64 (px gG),int u64 (py gG),.bool (pb gG)]):=by
  have:=baseS w;rwa [ptW_eq] at this
section
variable (mode x y k:Int)(c:Bool)(input info:ByteArray)(w:World)
theorem bldS_a
    (T:∀w,Calls prog 29 #[.int .i64 mode,.string input,.string info] w fun e w'=>e= .returned (.bool false)∧w=w'):
    Cr 9 #[.int .i64 mode,.string input,.string info,.agg #[int u64 x,int u64 y,.bool c],int u64 k] w (.tuple #[.agg #[int u64 0,int u64 0,.bool false,int u64 0,int u64 0,.bool false],.int .i64 1]):=by
  obtain⟨X,hX⟩:∃X,X=((w.alloc (Obj.cells #[int u64 x,int u64 y,.bool c] 25)).alloc (Obj.cells #[int u64 0,int u64 0,.bool false,int u64 0,int u64 0,.bool false] 32)).alloc (Obj.cells #[int u64 0,int u64 0,.bool false,int u64 0,int u64 0,.bool false] 32):=⟨_,rfl⟩;have r8:Bk X 25 w.heap.size #[int u64 x,int u64 y,.bool c]:=by rw [hX];exact((Bk.new _ _ _).alloc _).alloc _
  have r10:Bk X 32 (w.heap.size+1) #[int u64 0,int u64 0,.bool false,int u64 0,int u64 0,.bool false]:=by rw [hX];exact((Bk.new _ _ _).at (by simp)).alloc _
  have r12:Bk X 32 (w.heap.size+1+1) #[int u64 0,int u64 0,.bool false,int u64 0,int u64 0,.bool false]:=by rw [hX];exact(Bk.new _ _ _).at (by simp)
  have hb:Bl w X:=by rw [hX];exact(((Below.refl _ w).alloc (Nat.le_refl _) _).alloc (by simp) _).alloc (by simp;omega) _
  rw [hX] at r8 r10 r12 hb;clear hX;have p0:=r8.cell (k:=0) rfl;have p1:=r8.cell (k:=1) rfl;have p2:=r8.cell (k:=2) rfl;go_enter func9,ntmps9;go_wp2_with fail;refine(T _).mono ?_;rintro e w1 ⟨rfl,rfl⟩;clear T;have z0:=r12.cell (k:=0) rfl;have z1:=r12.cell (k:=1) rfl;have z2:=r12.cell (k:=2) rfl;have z3:=r12.cell (k:=3) rfl;have z4:=r12.cell (k:=4) rfl;have z5:=r12.cell (k:=5) rfl;have hth:=r10.there 6 (by decide);go_wp2_with (refine wpList_store_mid rfl 32 _ _ rfl (w.heap.size+1) 0 #[int u64 0,int u64 0,.bool false,int u64 0,int u64 0,.bool false] rfl rfl hth sizeBld (by kernel_rfl) ?_);exact bodyPost_ret (v:= .tuple #[.agg #[int u64 0,int u64 0,.bool false,int u64 0,int u64 0,.bool false],.int .i64 1]) (bk_res2 (fn:=Tryz.f9) (p:=10) (u:=11) results9 _ rfl (r10.sets _ rfl) underlying32 rfl sizeBld) rfl ⟨rfl,below_setCells hb (by omega) _ _⟩
theorem bldS_b
    (T:∀w,Calls prog 29 #[.int .i64 mode,.string input,.string info] w fun e w'=>e= .returned (.bool true)∧w=w')
    (E:Cc 30 #[.agg #[int u64 x,int u64 y,.bool c]] (.bool false)):
    Cr 9 #[.int .i64 mode,.string input,.string info,.agg #[int u64 x,int u64 y,.bool c],int u64 k] w (.tuple #[.agg #[int u64 0,int u64 0,.bool false,int u64 0,int u64 0,.bool false],.int .i64 1]):=by
  obtain⟨X,hX⟩:∃X,X=((w.alloc (Obj.cells #[int u64 x,int u64 y,.bool c] 25)).alloc (Obj.cells #[int u64 0,int u64 0,.bool false,int u64 0,int u64 0,.bool false] 32)).alloc (Obj.cells #[int u64 0,int u64 0,.bool false,int u64 0,int u64 0,.bool false] 32):=⟨_,rfl⟩;have r8:Bk X 25 w.heap.size #[int u64 x,int u64 y,.bool c]:=by rw [hX];exact((Bk.new _ _ _).alloc _).alloc _
  have r10:Bk X 32 (w.heap.size+1) #[int u64 0,int u64 0,.bool false,int u64 0,int u64 0,.bool false]:=by rw [hX];exact((Bk.new _ _ _).at (by simp)).alloc _
  have r12:Bk X 32 (w.heap.size+1+1) #[int u64 0,int u64 0,.bool false,int u64 0,int u64 0,.bool false]:=by rw [hX];exact(Bk.new _ _ _).at (by simp)
  have hb:Bl w X:=by rw [hX];exact(((Below.refl _ w).alloc (Nat.le_refl _) _).alloc (by simp) _).alloc (by simp;omega) _
  rw [hX] at r8 r10 r12 hb;clear hX;have p0:=r8.cell (k:=0) rfl;have p1:=r8.cell (k:=1) rfl;have p2:=r8.cell (k:=2) rfl;go_enter func9,ntmps9;go_wp2_with fail;refine(T _).mono ?_;rintro e w1 ⟨rfl,rfl⟩;clear T;go_wp2_with fail;refine(E _).mono ?_;rintro e w2 ⟨rfl,b1⟩;replace r8:=r8.keep b1;replace r10:=r10.keep b1;replace r12:=r12.keep b1;replace hb:=hb.tr b1;clear E b1 p0 p1 p2;have z0:=r12.cell (k:=0) rfl;have z1:=r12.cell (k:=1) rfl;have z2:=r12.cell (k:=2) rfl;have z3:=r12.cell (k:=3) rfl;have z4:=r12.cell (k:=4) rfl;have z5:=r12.cell (k:=5) rfl;have hth:=r10.there 6 (by decide);go_wp2_with (refine wpList_store_mid rfl 32 _ _ rfl (w.heap.size+1) 0 #[int u64 0,int u64 0,.bool false,int u64 0,int u64 0,.bool false] rfl rfl hth sizeBld (by kernel_rfl) ?_);exact bodyPost_ret (v:= .tuple #[.agg #[int u64 0,int u64 0,.bool false,int u64 0,int u64 0,.bool false],.int .i64 1]) (bk_res2 (fn:=Tryz.f9) (p:=10) (u:=11) results9 _ rfl (r10.sets _ rfl) underlying32 rfl sizeBld) rfl ⟨rfl,below_setCells hb (by omega) _ _⟩
theorem bldS_c
    (T:∀w,Calls prog 29 #[.int .i64 mode,.string input,.string info] w fun e w'=>e= .returned (.bool true)∧w=w')
    (E:Cc 30 #[.agg #[int u64 x,int u64 y,.bool c]] (.bool true))
    (K:∀w,Calls prog 31 #[int u64 k] w fun e w'=>e= .returned (.bool false)∧w=w'):
    Cr 9 #[.int .i64 mode,.string input,.string info,.agg #[int u64 x,int u64 y,.bool c],int u64 k] w (.tuple #[.agg #[int u64 0,int u64 0,.bool false,int u64 0,int u64 0,.bool false],.int .i64 1]):=by
  obtain⟨X,hX⟩:∃X,X=((w.alloc (Obj.cells #[int u64 x,int u64 y,.bool c] 25)).alloc (Obj.cells #[int u64 0,int u64 0,.bool false,int u64 0,int u64 0,.bool false] 32)).alloc (Obj.cells #[int u64 0,int u64 0,.bool false,int u64 0,int u64 0,.bool false] 32):=⟨_,rfl⟩;have r8:Bk X 25 w.heap.size #[int u64 x,int u64 y,.bool c]:=by rw [hX];exact((Bk.new _ _ _).alloc _).alloc _
  have r10:Bk X 32 (w.heap.size+1) #[int u64 0,int u64 0,.bool false,int u64 0,int u64 0,.bool false]:=by rw [hX];exact((Bk.new _ _ _).at (by simp)).alloc _
  have r12:Bk X 32 (w.heap.size+1+1) #[int u64 0,int u64 0,.bool false,int u64 0,int u64 0,.bool false]:=by rw [hX];exact(Bk.new _ _ _).at (by simp)
  have hb:Bl w X:=by rw [hX];exact(((Below.refl _ w).alloc (Nat.le_refl _) _).alloc (by simp) _).alloc (by simp;omega) _
  rw [hX] at r8 r10 r12 hb;clear hX;have p0:=r8.cell (k:=0) rfl;have p1:=r8.cell (k:=1) rfl;have p2:=r8.cell (k:=2) rfl;go_enter func9,ntmps9;go_wp2_with fail;refine(T _).mono ?_;rintro e w1 ⟨rfl,rfl⟩;clear T;go_wp2_with fail;refine(E _).mono ?_;rintro e w2 ⟨rfl,b1⟩;replace r8:=r8.keep b1;replace r10:=r10.keep b1;replace r12:=r12.keep b1;replace hb:=hb.tr b1;clear E b1 p0 p1 p2;go_wp2_with fail;refine(K _).mono ?_;rintro e w3 ⟨rfl,rfl⟩;clear K;have z0:=r12.cell (k:=0) rfl;have z1:=r12.cell (k:=1) rfl;have z2:=r12.cell (k:=2) rfl;have z3:=r12.cell (k:=3) rfl;have z4:=r12.cell (k:=4) rfl;have z5:=r12.cell (k:=5) rfl;have hth:=r10.there 6 (by decide);go_wp2_with (refine wpList_store_mid rfl 32 _ _ rfl (w.heap.size+1) 0 #[int u64 0,int u64 0,.bool false,int u64 0,int u64 0,.bool false] rfl rfl hth sizeBld (by kernel_rfl) ?_);exact bodyPost_ret (v:= .tuple #[.agg #[int u64 0,int u64 0,.bool false,int u64 0,int u64 0,.bool false],.int .i64 1]) (bk_res2 (fn:=Tryz.f9) (p:=10) (u:=11) results9 _ rfl (r10.sets _ rfl) underlying32 rfl sizeBld) rfl ⟨rfl,below_setCells hb (by omega) _ _⟩
theorem bldS_d (hx hy:Int)
    (T:∀w,Calls prog 29 #[.int .i64 mode,.string input,.string info] w fun e w'=>e= .returned (.bool true)∧w=w')
    (E:Cc 30 #[.agg #[int u64 x,int u64 y,.bool c]] (.bool true))
    (K:∀w,Calls prog 31 #[int u64 k] w fun e w'=>e= .returned (.bool true)∧w=w')
    (H:Cc 32 #[.int .i64 mode,.string input] (.agg #[int u64 hx,int u64 hy,.bool true])):
    Cr 9 #[.int .i64 mode,.string input,.string info,.agg #[int u64 x,int u64 y,.bool c],int u64 k] w (.tuple #[.agg #[int u64 0,int u64 0,.bool false,int u64 0,int u64 0,.bool false],.int .i64 2]):=by
  obtain⟨X,hX⟩:∃X,X=((w.alloc (Obj.cells #[int u64 x,int u64 y,.bool c] 25)).alloc (Obj.cells #[int u64 0,int u64 0,.bool false,int u64 0,int u64 0,.bool false] 32)).alloc (Obj.cells #[int u64 0,int u64 0,.bool false,int u64 0,int u64 0,.bool false] 32):=⟨_,rfl⟩;have r8:Bk X 25 w.heap.size #[int u64 x,int u64 y,.bool c]:=by rw [hX];exact((Bk.new _ _ _).alloc _).alloc _
  have r10:Bk X 32 (w.heap.size+1) #[int u64 0,int u64 0,.bool false,int u64 0,int u64 0,.bool false]:=by rw [hX];exact((Bk.new _ _ _).at (by simp)).alloc _
  have r12:Bk X 32 (w.heap.size+1+1) #[int u64 0,int u64 0,.bool false,int u64 0,int u64 0,.bool false]:=by rw [hX];exact(Bk.new _ _ _).at (by simp)
  have hb:Bl w X:=by rw [hX];exact(((Below.refl _ w).alloc (Nat.le_refl _) _).alloc (by simp) _).alloc (by simp;omega) _
  rw [hX] at r8 r10 r12 hb;clear hX;have p0:=r8.cell (k:=0) rfl;have p1:=r8.cell (k:=1) rfl;have p2:=r8.cell (k:=2) rfl;go_enter func9,ntmps9;go_wp2_with fail;refine(T _).mono ?_;rintro e w1 ⟨rfl,rfl⟩;clear T;go_wp2_with fail;refine(E _).mono ?_;rintro e w2 ⟨rfl,b1⟩;replace r8:=r8.keep b1;replace r10:=r10.keep b1;replace r12:=r12.keep b1;replace hb:=hb.tr b1;clear E b1 p0 p1 p2;go_wp2_with fail;refine(K _).mono ?_;rintro e w3 ⟨rfl,rfl⟩;clear K;go_wp2_with fail;refine(H _).mono ?_;rintro e w4 ⟨rfl,b1⟩;have hal:=balc w4 (Obj.cells #[int u64 hx,int u64 hy,.bool true] 25);have r13:=Bk.new w4 25 #[int u64 hx,int u64 hy,.bool true];replace r8:=(r8.keep b1).keep hal;replace r10:=(r10.keep b1).keep hal;replace r12:=(r12.keep b1).keep hal;replace hb:=hb.tr b1;replace hb:=hb.tr hal;clear H b1 hal;have h2:=r13.cell (k:=2) rfl;have z0:=r12.cell (k:=0) rfl;have z1:=r12.cell (k:=1) rfl;have z2:=r12.cell (k:=2) rfl;have z3:=r12.cell (k:=3) rfl;have z4:=r12.cell (k:=4) rfl;have z5:=r12.cell (k:=5) rfl;have hth:=r10.there 6 (by decide);go_wp2_with (refine wpList_store_mid rfl 32 _ _ rfl (w.heap.size+1) 0 #[int u64 0,int u64 0,.bool false,int u64 0,int u64 0,.bool false] rfl rfl hth sizeBld (by kernel_rfl) ?_);exact bodyPost_ret (v:= .tuple #[.agg #[int u64 0,int u64 0,.bool false,int u64 0,int u64 0,.bool false],.int .i64 2]) (bk_res2 (fn:=Tryz.f9) (p:=10) (u:=11) results9 _ rfl (r10.sets _ rfl) underlying32 rfl sizeBld) rfl ⟨rfl,below_setCells hb (by omega) _ _⟩
theorem bldS_e (hx hy ex ey:Int)(ec:Bool)(hm:(mode==2)=false)
    (T:∀w,Calls prog 29 #[.int .i64 mode,.string input,.string info] w fun e w'=>e= .returned (.bool true)∧w=w')
    (E:Cc 30 #[.agg #[int u64 x,int u64 y,.bool c]] (.bool true))
    (K:∀w,Calls prog 31 #[int u64 k] w fun e w'=>e= .returned (.bool true)∧w=w')
    (H:Cc 32 #[.int .i64 mode,.string input] (.agg #[int u64 hx,int u64 hy,.bool false]))
    (TM:Cc 7 #[int u64 k,.agg #[int u64 hx,int u64 hy,.bool false]] (.agg #[int u64 ex,int u64 ey,.bool ec])):
    Cr 9 #[.int .i64 mode,.string input,.string info,.agg #[int u64 x,int u64 y,.bool c],int u64 k] w (.tuple #[.agg #[int u64 ex,int u64 ey,.bool ec,int u64 0,int u64 0,.bool true],.int .i64 0]):=by
  obtain⟨X,hX⟩:∃X,X=((w.alloc (Obj.cells #[int u64 x,int u64 y,.bool c] 25)).alloc (Obj.cells #[int u64 0,int u64 0,.bool false,int u64 0,int u64 0,.bool false] 32)).alloc (Obj.cells #[int u64 0,int u64 0,.bool false,int u64 0,int u64 0,.bool false] 32):=⟨_,rfl⟩;have r8:Bk X 25 w.heap.size #[int u64 x,int u64 y,.bool c]:=by rw [hX];exact((Bk.new _ _ _).alloc _).alloc _
  have r10:Bk X 32 (w.heap.size+1) #[int u64 0,int u64 0,.bool false,int u64 0,int u64 0,.bool false]:=by rw [hX];exact((Bk.new _ _ _).at (by simp)).alloc _
  have r12:Bk X 32 (w.heap.size+1+1) #[int u64 0,int u64 0,.bool false,int u64 0,int u64 0,.bool false]:=by rw [hX];exact(Bk.new _ _ _).at (by simp)
  have hb:Bl w X:=by rw [hX];exact(((Below.refl _ w).alloc (Nat.le_refl _) _).alloc (by simp) _).alloc (by simp;omega) _
  rw [hX] at r8 r10 r12 hb;clear hX;have p0:=r8.cell (k:=0) rfl;have p1:=r8.cell (k:=1) rfl;have p2:=r8.cell (k:=2) rfl;go_enter func9,ntmps9;go_wp2_with fail;refine(T _).mono ?_;rintro e w1 ⟨rfl,rfl⟩;clear T;go_wp2_with fail;refine(E _).mono ?_;rintro e w2 ⟨rfl,b1⟩;replace r8:=r8.keep b1;replace r10:=r10.keep b1;replace r12:=r12.keep b1;replace hb:=hb.tr b1;clear E b1 p0 p1 p2;go_wp2_with fail;refine(K _).mono ?_;rintro e w3 ⟨rfl,rfl⟩;clear K;go_wp2_with fail;refine(H _).mono ?_;rintro e w4 ⟨rfl,b1⟩;have hl4:w.heap.size+1+1<w4.heap.size:=(r12.keep b1).lt;have hal:=balc w4 (Obj.cells #[int u64 hx,int u64 hy,.bool false] 25);have r13:=Bk.new w4 25 #[int u64 hx,int u64 hy,.bool false];replace r8:=(r8.keep b1).keep hal;replace r10:=(r10.keep b1).keep hal;replace r12:=(r12.keep b1).keep hal;replace hb:=hb.tr b1;replace hb:=hb.tr hal;clear H b1 hal;have h2:=r13.cell (k:=2) rfl;have h0:=r13.cell (k:=0) rfl;have h1:=r13.cell (k:=1) rfl;go_wp2_with fail;refine(TM _).mono ?_;rintro e w5 ⟨rfl,b1⟩;have hal:=balc w5 (Obj.cells #[int u64 ex,int u64 ey,.bool ec,int u64 0,int u64 0,.bool false] 32);have r14:=Bk.new w5 32 #[int u64 ex,int u64 ey,.bool ec,int u64 0,int u64 0,.bool false];replace r8:=(r8.keep b1).keep hal;replace r10:=(r10.keep b1).keep hal;replace r12:=(r12.keep b1).keep hal;have hl5:w.heap.size+1+1<w5.heap.size:=by have:=b1.size;simp at this;omega
  replace hb:=hb.tr b1;replace hb:=hb.tr hal;clear TM b1 hal h0 h1 h2 r13;go_wp2_with fail;refine(zroS _).mono ?_;rintro e w6 ⟨rfl,b1⟩;replace r8:=r8.keep b1;replace r10:=r10.keep b1;replace r12:=r12.keep b1;replace r14:=r14.keep b1;replace hb:=hb.tr b1;have ht3:=r14.there3;clear b1
  go_wp2_with (first
    | (refine wpList_store_mid rfl 25 _ _ rfl w5.heap.size 3 #[int u64 0,int u64 0,.bool true] rfl rfl ht3 sizePt3 (by kernel_rfl) ?_
       generalize hW1:World.setCells _ _ _ _=W1;have s14:Bk W1 32 w5.heap.size #[int u64 ex,int u64 ey,.bool ec,int u64 0,int u64 0,.bool true]:=by rw [←hW1];exact r14.set3 _ _ _
       have s10:Bk W1 32 (w.heap.size+1) #[int u64 0,int u64 0,.bool false,int u64 0,int u64 0,.bool false]:=by rw [←hW1];exact r10.setsO (by omega) _ _
       have s12:Bk W1 32 (w.heap.size+1+1) #[int u64 0,int u64 0,.bool false,int u64 0,int u64 0,.bool false]:=by rw [←hW1];exact r12.setsO (by omega) _ _
       have s8:Bk W1 25 w.heap.size #[int u64 x,int u64 y,.bool c]:=by rw [←hW1];exact r8.setsO (by omega) _ _
       have hb1:Bl w W1:=by rw [←hW1];exact below_setCells hb (by omega) _ _
       have z0:=s14.cell (k:=0) rfl;have z1:=s14.cell (k:=1) rfl;have z2:=s14.cell (k:=2) rfl;have z3:=s14.cell (k:=3) rfl;have z4:=s14.cell (k:=4) rfl;have z5:=s14.cell (k:=5) rfl;have hth:=s10.there 6 (by decide)
       clear hW1 ht3 r8 r10 r12 r14 hb)
    |(refine wpList_store_mid rfl 32 _ _ rfl (w.heap.size+1) 0 #[int u64 ex,int u64 ey,.bool ec,int u64 0,int u64 0,.bool true] rfl rfl hth sizeBld (by kernel_rfl) ?_))
  exact bodyPost_ret (v:= .tuple #[.agg #[int u64 ex,int u64 ey,.bool ec,int u64 0,int u64 0,.bool true],.int .i64 0]) (bk_res2 (fn:=Tryz.f9) (p:=10) (u:=11) results9 _ rfl (s10.sets _ rfl) underlying32 rfl sizeBld) rfl ⟨rfl,below_setCells hb1 (by omega) _ _⟩
theorem bldS_f (hx hy ex ey tk ux uy tx ty:Int)(ec uc tc:Bool)(hm:mode=2)
    (T:∀w,Calls prog 29 #[.int .i64 mode,.string input,.string info] w fun e w'=>e= .returned (.bool true)∧w=w')
    (E:Cc 30 #[.agg #[int u64 x,int u64 y,.bool c]] (.bool true))
    (K:∀w,Calls prog 31 #[int u64 k] w fun e w'=>e= .returned (.bool true)∧w=w')
    (H:Cc 32 #[.int .i64 mode,.string input] (.agg #[int u64 hx,int u64 hy,.bool false]))
    (TM:Cc 7 #[int u64 k,.agg #[int u64 hx,int u64 hy,.bool false]] (.agg #[int u64 ex,int u64 ey,.bool ec]))
    (TW:Cc 25 #[.string info] (int u64 tk))
    (TB:Cc 7 #[int u64 tk,.agg #[int u64 (px gG),int u64 (py gG),.bool (pb gG)]] (.agg #[int u64 ux,int u64 uy,.bool uc]))
    (SU:Cc 28 #[.agg #[int u64 ux,int u64 uy,.bool uc],.agg #[int u64 x,int u64 y,.bool c]] (.agg #[int u64 tx,int u64 ty,.bool tc])):
    Cr 9 #[.int .i64 mode,.string input,.string info,.agg #[int u64 x,int u64 y,.bool c],int u64 k] w (.tuple #[.agg (if tc=true then #[int u64 0,int u64 0,.bool false,int u64 0,int u64 0,.bool false] else #[int u64 ex,int u64 ey,.bool ec,int u64 tx,int u64 ty,.bool tc]),.int .i64 (if tc=true then 3 else 0)]):=by
  have hm2:(mode==2)=true:=by simpa using hm
  clear hm;obtain⟨V,hV⟩:∃V,Hid (V=(if tc=true then #[int u64 0,int u64 0,.bool false,int u64 0,int u64 0,.bool false] else #[int u64 ex,int u64 ey,.bool ec,int u64 tx,int u64 ty,.bool tc]:Array Value)):=⟨_,rfl⟩;obtain⟨Cd,hC⟩:∃Cd:Int,Hid (Cd=(if tc=true then 3 else 0)):=⟨_,rfl⟩;rw [←hV.out,←hC.out];obtain⟨X,hX⟩:∃X,X=((w.alloc (Obj.cells #[int u64 x,int u64 y,.bool c] 25)).alloc (Obj.cells #[int u64 0,int u64 0,.bool false,int u64 0,int u64 0,.bool false] 32)).alloc (Obj.cells #[int u64 0,int u64 0,.bool false,int u64 0,int u64 0,.bool false] 32):=⟨_,rfl⟩;have r8:Bk X 25 w.heap.size #[int u64 x,int u64 y,.bool c]:=by rw [hX];exact((Bk.new _ _ _).alloc _).alloc _
  have r10:Bk X 32 (w.heap.size+1) #[int u64 0,int u64 0,.bool false,int u64 0,int u64 0,.bool false]:=by rw [hX];exact((Bk.new _ _ _).at (by simp)).alloc _
  have r12:Bk X 32 (w.heap.size+1+1) #[int u64 0,int u64 0,.bool false,int u64 0,int u64 0,.bool false]:=by rw [hX];exact(Bk.new _ _ _).at (by simp)
  have hb:Bl w X:=by rw [hX];exact(((Below.refl _ w).alloc (Nat.le_refl _) _).alloc (by simp) _).alloc (by simp;omega) _
  rw [hX] at r8 r10 r12 hb;clear hX;have p0:=r8.cell (k:=0) rfl;have p1:=r8.cell (k:=1) rfl;have p2:=r8.cell (k:=2) rfl;go_enter func9,ntmps9;go_wp2_with fail;refine(T _).mono ?_;rintro e w1 ⟨rfl,rfl⟩;clear T;go_wp2_with fail;refine(E _).mono ?_;rintro e w2 ⟨rfl,b1⟩;replace r8:=r8.keep b1;replace r10:=r10.keep b1;replace r12:=r12.keep b1;replace hb:=hb.tr b1;clear E b1 p0 p1 p2;go_wp2_with fail;refine(K _).mono ?_;rintro e w3 ⟨rfl,rfl⟩;clear K;go_wp2_with fail;refine(H _).mono ?_;rintro e w4 ⟨rfl,b1⟩;have hl4:w.heap.size+1+1<w4.heap.size:=(r12.keep b1).lt;have hal:=balc w4 (Obj.cells #[int u64 hx,int u64 hy,.bool false] 25);have r13:=Bk.new w4 25 #[int u64 hx,int u64 hy,.bool false];replace r8:=(r8.keep b1).keep hal;replace r10:=(r10.keep b1).keep hal;replace r12:=(r12.keep b1).keep hal;replace hb:=hb.tr b1;replace hb:=hb.tr hal;clear H b1 hal;have h2:=r13.cell (k:=2) rfl;have h0:=r13.cell (k:=0) rfl;have h1:=r13.cell (k:=1) rfl;go_wp2_with fail;refine(TM _).mono ?_;rintro e w5 ⟨rfl,b1⟩;have hal:=balc w5 (Obj.cells #[int u64 ex,int u64 ey,.bool ec,int u64 0,int u64 0,.bool false] 32);have r14:=Bk.new w5 32 #[int u64 ex,int u64 ey,.bool ec,int u64 0,int u64 0,.bool false];replace r8:=(r8.keep b1).keep hal;replace r10:=(r10.keep b1).keep hal;replace r12:=(r12.keep b1).keep hal;have hl5:w.heap.size+1+1<w5.heap.size:=by have:=b1.size;simp at this;omega
  replace hb:=hb.tr b1;replace hb:=hb.tr hal;clear TM b1 hal h0 h1 h2 r13;go_wp2_with fail;refine(zroS _).mono ?_;rintro e w6 ⟨rfl,b1⟩;replace r8:=r8.keep b1;replace r10:=r10.keep b1;replace r12:=r12.keep b1;replace r14:=r14.keep b1;replace hb:=hb.tr b1;have ht3:=r14.there3;clear b1
  go_wp2_with (first
    | (refine wpList_store_mid rfl 25 _ _ rfl w5.heap.size 3 #[int u64 0,int u64 0,.bool true] rfl rfl ht3 sizePt3 (by kernel_rfl) ?_
       generalize hW1:World.setCells _ _ _ _=W1;have s14:Bk W1 32 w5.heap.size #[int u64 ex,int u64 ey,.bool ec,int u64 0,int u64 0,.bool true]:=by rw [←hW1];exact r14.set3 _ _ _
       have s10:Bk W1 32 (w.heap.size+1) #[int u64 0,int u64 0,.bool false,int u64 0,int u64 0,.bool false]:=by rw [←hW1];exact r10.setsO (by omega) _ _
       have s12:Bk W1 32 (w.heap.size+1+1) #[int u64 0,int u64 0,.bool false,int u64 0,int u64 0,.bool false]:=by rw [←hW1];exact r12.setsO (by omega) _ _
       have s8:Bk W1 25 w.heap.size #[int u64 x,int u64 y,.bool c]:=by rw [←hW1];exact r8.setsO (by omega) _ _
       have hb1:Bl w W1:=by rw [←hW1];exact below_setCells hb (by omega) _ _
       have z0:=s14.cell (k:=0) rfl;have z1:=s14.cell (k:=1) rfl;have z2:=s14.cell (k:=2) rfl;have z3:=s14.cell (k:=3) rfl;have z4:=s14.cell (k:=4) rfl;have z5:=s14.cell (k:=5) rfl;have hth:=s10.there 6 (by decide)
       clear hW1 ht3 r8 r10 r12 r14 hb))
  clear z0 z1 z2 z3 z4 z5 hth;generalize w5.heap.size=BB at*;have q0:W1.drew.cell? ⟨w.heap.size,0,none⟩=_:=s8.cell (k:=0) rfl;have q1:W1.drew.cell? ⟨w.heap.size,1,none⟩=_:=s8.cell (k:=1) rfl;have q2:W1.drew.cell? ⟨w.heap.size,2,none⟩=_:=s8.cell (k:=2) rfl;have n0:w.heap.size∉ [BB]:=fun h=>absurd (List.mem_singleton.1 h) (by omega)
  have l1:BB<W1.drew.heap.size:=s14.lt
  refine G.pool_list (W:=W1) [BB] [.val (.string info),
      .val (int u64 tk),
      .val (.agg #[int u64 (px gG),int u64 (py gG),.bool (pb gG)]),
      .val (.agg #[int u64 ux,int u64 uy,.bool uc]),
      .val (.agg #[int u64 x,int u64 y,.bool c]),
      .val (.agg #[int u64 tx,int u64 ty,.bool tc]),
      .val (.pointer (some ⟨BB,3,none⟩)),
      .set (BB) (.cells #[int u64 ex,int u64 ey,.bool ec,int u64 0,int u64 0,.bool true] 32) (.cells #[int u64 ex,int u64 ey,.bool ec,int u64 tx,int u64 ty,.bool tc] 32)] [[2],[47],[],[48,49],[8],[50,51],[14],[53,52]] (fun f=> [(some 47,.string info),(some 48,int u64 tk),(some 49,.agg #[int u64 (px gG),int u64 (py gG),.bool (pb gG)]),(some 50,.agg #[int u64 ux,int u64 uy,.bool uc]),(some 51,.agg #[int u64 x,int u64 y,.bool c]),(some 52,.agg #[int u64 tx,int u64 ty,.bool tc]),(some 53,.pointer (some ⟨BB,3,none⟩)),(none,undef)]) (by kernel_rfl) (by kernel_rfl) (by kernel_rfl) (by kernel_rfl) (fun _=>by kernel_rfl) (G.last_of [.cells #[int u64 ex,int u64 ey,.bool ec,int u64 0,int u64 0,.bool true] 32] (fun F R hm=>by simp at hm) (fun ob ob' k hm=>by simp at hm) (fun b ob ob' hm=>by simp at hm;simp [hm])) (fun b ob ob' hm=>by simp at hm;obtain⟨rfl,rfl,-⟩:=hm;exact s14) ?_ ?_
  · intro ix hix
    match ix,hix with
    |0,_=>exact G.obv [(2,.string info)] rfl rfl (fun A w ⟨e0,_⟩ hB=>doV_move e0)
    |1,_=>exact G.obv [(47,.string info)] rfl rfl (fun A w ⟨e0,_⟩ hB=>cl1 cf_spec_l6Tweak e0 (TW w))
    |2,_=>exact G.obv [] rfl rfl (fun A w _ hB=>cl0 cf_spec_Base (bsG w))
    |3,_=>exact G.obv [(48,int u64 tk),(49,.agg #[int u64 (px gG),int u64 (py gG),.bool (pb gG)])] rfl rfl (fun A w ⟨e0,e1,_⟩ hB=>cl2 cf_spec_Times e0 e1 (TB w))
    |4,_=>exact G.obv [(8,.pointer (some ⟨w.heap.size,0,none⟩))] rfl rfl (fun A w ⟨e0,_⟩ hB=>ld_pt e0 (hB.cell q0 n0) (hB.cell q1 n0) (hB.cell q2 n0))
    |5,_=>exact G.obv [(50,.agg #[int u64 ux,int u64 uy,.bool uc]),(51,.agg #[int u64 x,int u64 y,.bool c])] rfl rfl (fun A w ⟨e0,e1,_⟩ hB=>cl2 cf_spec_l3Sum e0 e1 (SU w))
    |6,_=>exact G.obv [(14,.pointer (some ⟨BB,0,none⟩))] rfl rfl (fun A w ⟨e0,_⟩ hB=>fa_bld1 e0)
    |7,_=>exact G.ob_set (fun f=> [(53,.pointer (some ⟨BB,3,none⟩)),(52,.agg #[int u64 tx,int u64 ty,.bool tc])]) rfl rfl rfl (by simp) l1 (fun j ob1 ob2 h=>by (rcases j with _|_|_|_|_|_|_|_|j)<;>simp [G.kindOf] at h⊢ <;>omega) (fun _=>by kernel_rfl) (fun f A w ⟨e0,e1,_⟩ hh hr=>pu_f3 e0 e1 hr (by kernel_rfl))
    |ix+8,h=>exact absurd h (by simp)
  intro f W3 hS _ _ _ hset;have r14:Bk W3 32 BB #[int u64 ex,int u64 ey,.bool ec,int u64 tx,int u64 ty,.bool tc]:=hset 7 _ _ _ rfl (by decide);have k10:Bk W3 32 (w.heap.size+1) #[int u64 0,int u64 0,.bool false,int u64 0,int u64 0,.bool false]:=(hS.block _ s10.lt (fun h=>absurd (List.mem_singleton.1 h) (by omega))).trans s10;have k12:Bk W3 32 (w.heap.size+1+1) #[int u64 0,int u64 0,.bool false,int u64 0,int u64 0,.bool false]:=(hS.block _ s12.lt (fun h=>absurd (List.mem_singleton.1 h) (by omega))).trans s12;have hb3:Bl w W3:=hS.under hb1.drew (by intro b h;rw [List.mem_singleton.1 h];omega) hb1.size;clear hset hS q0 q1 q2 s8 s10 s12 s14 hb1 TW TB SU;have hth:=k10.there 6 (by decide);have t5:=r14.cell (k:=5) rfl;simp only [puts,List.foldl,Act.put,List.setIfInBounds_toArray,List.set_cons_zero,List.set_cons_succ]
  cases tc with
  | true=>
    have z0:=k12.cell (k:=0) rfl;have z1:=k12.cell (k:=1) rfl;have z2:=k12.cell (k:=2) rfl;have z3:=k12.cell (k:=3) rfl;have z4:=k12.cell (k:=4) rfl;have z5:=k12.cell (k:=5) rfl;go_wp2_with (refine wpList_store_mid rfl 32 _ _ rfl (w.heap.size+1) 0 #[int u64 0,int u64 0,.bool false,int u64 0,int u64 0,.bool false] rfl rfl hth sizeBld (by kernel_rfl) ?_);exact bodyPost_ret (v:= .tuple #[.agg #[int u64 0,int u64 0,.bool false,int u64 0,int u64 0,.bool false],.int .i64 3]) (bk_res2 (fn:=Tryz.f9) (p:=10) (u:=11) results9 _ rfl (k10.sets _ rfl) underlying32 rfl sizeBld) rfl ⟨by rw [hV.out,hC.out];rfl,below_setCells hb3 (by omega) _ _⟩
  | false=>
    clear t5;have z0:=r14.cell (k:=0) rfl;have z1:=r14.cell (k:=1) rfl;have z2:=r14.cell (k:=2) rfl;have z3:=r14.cell (k:=3) rfl;have z4:=r14.cell (k:=4) rfl;have z5:=r14.cell (k:=5) rfl;go_wp2_with (refine wpList_store_mid rfl 32 _ _ rfl (w.heap.size+1) 0 #[int u64 ex,int u64 ey,.bool ec,int u64 tx,int u64 ty,.bool false] rfl rfl hth sizeBld (by kernel_rfl) ?_);exact bodyPost_ret (v:= .tuple #[.agg #[int u64 ex,int u64 ey,.bool ec,int u64 tx,int u64 ty,.bool false],.int .i64 0]) (bk_res2 (fn:=Tryz.f9) (p:=10) (u:=11) results9 _ rfl (k10.sets _ rfl) underlying32 rfl sizeBld) rfl ⟨by rw [hV.out,hC.out];rfl,below_setCells hb3 (by omega) _ _⟩
end
theorem dtxt_any (v:Value)(p:Nat)(w:World)(hv:Cod w v)(hp:p≤20000):
    Calls prog 20 #[v,.int .i64 p] w fun e w'=>(∃(m:Int) (s t:ByteArray) (q:Nat),(-1≤m∧m≤5)∧s.size≤65537∧t.size≤65537∧q≤p+86∧e= .returned (.tuple #[.int .i64 m,.string s,.string t,.int .i64 q]))∧Bl w w':=by
  have T1:=take_any v p 3 w hv (by omega) (by omega) (by omega);have T2:=take_any v (p+1) 24 w hv (by omega) (by omega) (by omega);have T3:=some_any v (p+2) w hv (by omega);have e1:((p+1:Nat):Int)=(p:Int)+1:=by omega
  have e2:((p+2:Nat):Int)=(p:Int)+1+1:=by omega
  rw [e1] at T2;rw [e2] at T3;have hp':(p:Int)≤20000:=by omega
  go_enter func20,ntmps20;go_wp2_with fail;refine T1.mono ?_;rintro e w1 ⟨⟨m,hm,rfl⟩,rfl⟩;go_wp2_with fail;refine T2.mono ?_;rintro e w1 ⟨⟨h,hh,rfl⟩,rfl⟩;go_wp2_with fail;refine T3.mono ?_;rintro e w3 ⟨⟨s,q,hs,hq,rfl⟩,b3⟩;have T4:=some_any v q w3 (hv.below b3) (by omega);clear T1 T2 T3 e1 e2;go_wp2_with fail;refine T4.mono ?_;rintro e w4 ⟨⟨t,q2,ht,hq2,rfl⟩,b4⟩;have hb:=b3.tr b4;clear T4 b3 b4;by_cases h23:h=23
  · subst h23;have g1:((m:Int)*3-1)≤5∧ -1≤((m:Int)*3-1):=by omega
    have g2:(m:Int)≤2:=by omega
    go_wp2;exact bodyPost_ret (v:= .tuple #[.int .i64 ((m:Int)*3-1),.string s,.string t,.int .i64 q2]) (by simp [results,results20]) rfl ⟨⟨_,s,t,q2,by omega,hs,ht,by omega,rfl⟩,hb⟩
  · have g1: ¬ (h:Int)=23:=by omega
    by_cases hm2:m<2
    · have g2:(m:Int)<2:=by omega
      by_cases h0:0<h
      · have g3:(0:Int)<(h:Int):=by omega
        go_wp2;exact bodyPost_ret (v:= .tuple #[.int .i64 m,.string s,.string ⟨#[]⟩,.int .i64 q2]) (by simp [results,results20]) rfl ⟨⟨_,s,⟨#[]⟩,q2,by omega,hs,by decide,by omega,rfl⟩,hb⟩
      · have g3: ¬ (0:Int)<(h:Int):=by omega
        go_wp2;exact bodyPost_ret (v:= .tuple #[.int .i64 m,.string s,.string t,.int .i64 q2]) (by simp [results,results20]) rfl ⟨⟨_,s,t,q2,by omega,hs,ht,by omega,rfl⟩,hb⟩
    · obtain rfl:m=2:=by omega
      clear hm hm2;go_wp2;exact bodyPost_ret (v:= .tuple #[.int .i64 2,.string s,.string t,.int .i64 q2]) (by simp [results,results20]) rfl ⟨⟨2,s,t,q2,by omega,hs,ht,by omega,rfl⟩,hb⟩
theorem dkey_any (v:Value)(p:Nat)(w:World)(hv:Cod w v)(hp:p≤20000):
    Calls prog 23 #[v,.int .i64 p] w fun e w'=>(∃k:Nat,k<18446744073709551616∧e= .returned (.tuple #[int u64 k,.int .i64 (p+11:Nat)]))∧Bl w w':=by
  have T1:=take_any v p 40 w hv (by omega) (by omega) (by omega);have T2:=dscal_any v (p+1) w hv (by omega);have e1:((p+1:Nat):Int)=(p:Int)+1:=by omega
  have e2:((p+1+10:Nat):Int)=(p+11:Nat):=by omega
  rw [e1,e2] at T2;generalize ((p+11:Nat):Int)=P11 at*;go_enter func23,ntmps23;go_wp2_with fail;refine T1.mono ?_;rintro e w1 ⟨⟨h,hh,rfl⟩,rfl⟩;go_wp2_with fail;refine T2.mono ?_;rintro e w2 ⟨⟨k,hk,rfl⟩,b2⟩;clear T1 T2 e1 e2;by_cases h38:h=38
  · subst h38;go_wp2;go_ret2;exact⟨⟨0,by decide,rfl⟩,b2⟩
  · have g1: ¬ (h:Int)=38:=by omega
    by_cases h39:h=39
    · subst h39;go_wp2;go_ret2;exact⟨⟨2305843010818082053,by decide,rfl⟩,b2⟩
    · have g2: ¬ (h:Int)=39:=by omega
      by_cases hN:k=2305843010818082053
      · subst hN;go_wp2;go_ret2;exact⟨⟨1,by decide,rfl⟩,b2⟩
      · have g3: ¬ (k:Int)=2305843010818082053:=by omega
        go_wp2;go_ret2;exact⟨⟨k,hk,rfl⟩,b2⟩
theorem sizW (s:ByteArray)(w:World)(h:s.size≤65537):
    Calls prog 56 #[.string s] w fun e w'=>(∃t:ByteArray,t.size=s.size+2∧e= .returned (.string t))∧Bl w w':=by
  by_cases hz:s.size≤65535
  · refine(sizS_any s w hz).mono ?_;rintro e w' ⟨rfl,b⟩;exact⟨⟨_,by rw [sizB_size],rfl⟩,b⟩
  · obtain⟨x,hx,hsz⟩:∃x:Int,(x=0∨x=1)∧(s.size:Int)=65536+x:=⟨(s.size:Int)-65536,by omega,by omega⟩;have hcv:=conv2 w 0 x;obtain⟨T,hT⟩:∃T,Hid (T=strOfNums [0,x]):=⟨_,rfl⟩;have hTs:T.size=2:=by rw [hT.out,strOfNums_size];rfl
    rw [←hT.out] at hcv;have hq: ¬ (9223372036854775807<T.size+s.size):=by omega
    have hsum:(T++s).size=s.size+2:=by rw [ByteArray.size_append,hTs];omega
    rcases hx with rfl|rfl
    · have hsz':(s.size:Int)=65536:=by omega
      clear hsz hz h hT;go_enter func56,ntmps56;go_wp2;go_ret;exact⟨⟨_,hsum,rfl⟩,(Below.refl _ w).alloc (Nat.le_refl _) _⟩
    · have hsz':(s.size:Int)=65537:=by omega
      clear hsz hz h hT;go_enter func56,ntmps56;go_wp2;go_ret;exact⟨⟨_,hsum,rfl⟩,(Below.refl _ w).alloc (Nat.le_refl _) _⟩
theorem scaW (s:ByteArray)(k:Nat)(w:World)(hk:k<3):
    Calls prog 55 #[.string s,.int .i64 k] w fun e w'=>(∃x:Nat,x<2305843010818082053∧e= .returned (int u64 x))∧Bl w w':=by
  by_cases hs:s.size≤65535
  · refine(scaS_any s k w hk hs).mono ?_;rintro e w' ⟨rfl,b⟩;exact⟨⟨_,scaN_lt s k,rfl⟩,b⟩
  · have T:=tagS_any ⟨#[72,97,115,104,84,111,83,99,97,108,97,114,45]⟩ k w hk (by decide);have H:=fun w'=>h2sS_no s (scaT k) w' (fun h=>hs h.2.2)
    change Calls _ _ _ _ (fun e w'=>e= .returned (.string (scaT k))∧_) at T;generalize scaT k=t at*;go_enter func55,ntmps55;go_wp2_with fail;refine T.mono ?_;rintro e w1 ⟨rfl,b1⟩;go_wp2_with fail;refine(H w1).mono ?_;rintro e w2 ⟨rfl,b2⟩;go_wp2;go_ret;exact⟨⟨0,by decide,rfl⟩,b1.tr b2⟩
theorem twkW (info:ByteArray)(w:World)(h:info.size≤65537):
    Calls prog 25 #[.string info] w fun e w'=>(∃x:Nat,x<2305843010818082053∧e= .returned (int u64 x))∧Bl w w':=by
  go_enter func25,ntmps25;go_wp2_with fail;refine(sizW info _ h).mono ?_;rintro e w1 ⟨⟨t,ht,rfl⟩,b1⟩;have hq: ¬ (9223372036854775807<(ByteArray.mk #[73,110,102,111]).size+t.size):=by rw [show (ByteArray.mk #[73,110,102,111]).size=4 from rfl];omega
  go_wp2_with fail;refine(scaW _ 2 _ (by omega)).mono ?_;rintro e w2 ⟨⟨x,hx,rfl⟩,b2⟩;go_wp2;go_ret;exact⟨⟨x,hx,rfl⟩,b1.tr b2⟩
theorem tctt_res {W:World}{b:Nat}{x y:Int}{c:Bool}{fn:Func}{t1 t2 t3 p t4:Tmp}(h:fn.results=#[.tmp t1,.tmp t2,.tmp t3,.cell p 25,.tmp t4])(tmps:Array Value)(hp:tmps.getD p undef= .pointer (some ⟨b,0,none⟩))(hc:Bk W 25 b #[int u64 x,int u64 y,.bool c]):
    (results fn tmps).run prog W= .ok (.tuple #[tmps.getD t1 undef,tmps.getD t2 undef,tmps.getD t3 undef,.agg #[int u64 x,int u64 y,.bool c],tmps.getD t4 undef]) W:=by
  have hp':tmps[p]?.getD undef= .pointer (some ⟨b,0,none⟩):=by simpa using hp
  have hl:=run_loadVar_mid (P:=prog) W b 0 25 [int u64 x,int u64 y,.bool c] _ hc.range underlying25 rfl (by kernel_rfl);simp [results,h,hp',asAddr,hl]
theorem dbld_any (v:Value)(w:World)(hv:Cod w v):
    Calls prog 5 #[v] w fun e w'=>(∃(m:Int) (s t:ByteArray) (x y:Int) (c:Bool) (k:Nat),s.size≤65537∧t.size≤65537∧k<18446744073709551616∧e= .returned (.tuple #[.int .i64 m,.string s,.string t,.agg #[int u64 x,int u64 y,.bool c],int u64 k]))∧Bl w w':=by
  have r5:=Bk.new w 25 #[int u64 0,int u64 0,.bool false];have hb:=balc w (Obj.cells #[int u64 0,int u64 0,.bool false] 25);go_enter func5,ntmps5;go_wp2_with fail;refine(dtxt_any v 0 _ (hv.below hb) (by omega)).mono ?_;rintro e w1 ⟨⟨m,s,t,q,hm,hs,ht,hq,rfl⟩,b1⟩;replace r5:=r5.keep b1;replace hb:=hb.tr b1;clear b1;go_wp2_with fail;refine(take_any v q 12 _ (hv.below hb) (by omega) (by omega) (by omega)).mono ?_;rintro e w' ⟨⟨h,hh,rfl⟩,rfl⟩;have D:=dany_any v (q+1) _ (hv.below hb) (by omega);obtain⟨z,hz⟩:∃z,z=q+1+12:=⟨_,rfl⟩;have hzl:z≤20000:=by omega
  rw [show ((q+1:Nat):Int)=(q:Int)+1 by omega,←hz] at D;clear hz;go_wp2_with fail;refine D.mono ?_;rintro e w2 ⟨⟨x,y,c,hx,hy,rfl⟩,b2⟩;have hal:=balc w2 (Obj.cells #[int u64 (x:Int),int u64 (y:Int),.bool c] 25);have r13:=Bk.new w2 25 #[int u64 (x:Int),int u64 (y:Int),.bool c];have hlt:w.heap.size<w2.heap.size:=Nat.lt_of_lt_of_le r5.lt b2.size;replace r5:=(r5.keep b2).keep hal;replace hb:=hb.tr b2;replace hb:=hb.tr hal;clear b2 hal D;go_wp2_with fail;refine(dkey_any v z _ (hv.below hb) hzl).mono ?_;rintro e w3 ⟨⟨k,hk,rfl⟩,b3⟩;replace r5:=r5.keep b3;replace r13:=r13.keep b3;replace hb:=hb.tr b3;clear b3 hzl;generalize ((z+11:Nat):Int)=Z at*;generalize w2.heap.size=B at*;by_cases hc:h=0∧m=2
  · obtain⟨rfl,rfl⟩:=hc;go_wp2_with fail;refine(twkW t _ ht).mono ?_;rintro e w4 ⟨⟨tk,htk,rfl⟩,b4⟩;go_wp2_with fail;refine(bsG _).mono ?_;rintro e w5 ⟨rfl,b5⟩;go_wp2_with fail;refine(tiS_pt gG_on tk (by omega) _).mono ?_;rintro e w6 ⟨rfl,b6⟩;obtain⟨tt,e1,e2,e3,e4,-⟩:=pt_nat (nt_on gG_on tk);have N:=negS_any tt.1 tt.2.1 tt.2.2;rw [ptW_eq] at N;generalize ng (asPt tt.1 tt.2.1 tt.2.2)=u at*;rw [e2,e3,e4];clear e1 e2 e3 e4;go_wp2_with fail;refine(N _).mono ?_;rintro e w7 ⟨rfl,b7⟩;replace r5:=(((r5.keep b4).keep b5).keep b6).keep b7;replace r13:=(((r13.keep b4).keep b5).keep b6).keep b7;replace hb:=(((hb.tr b4).trans (b5.mono (Nat.le_trans hb.size b4.size))).trans (b6.mono (Nat.le_trans hb.size (Nat.le_trans b4.size b5.size)))).trans (b7.mono (Nat.le_trans hb.size (Nat.le_trans b4.size (Nat.le_trans b5.size b6.size))));clear b4 b5 b6 b7 N;have c0:=r13.cell (k:=0) rfl;have c1:=r13.cell (k:=1) rfl;have c2:=r13.cell (k:=2) rfl;have cf:=r13.frz;go_wp2;have s13:Bk (((w7.setCell ⟨B,0,none⟩ (int u64 (px u))).setCell ⟨B,1,none⟩ (int u64 (py u))).setCell ⟨B,2,none⟩ (.bool (pb u))) 25 B #[int u64 (px u),int u64 (py u),.bool (pb u)]:=((r13.set 0 (int u64 (px u))).set 1 (int u64 (py u))).set 2 (.bool (pb u));have s5:=((r5.other (b':=B) (by omega) 0 (int u64 (px u))).other (b':=B) (by omega) 1 (int u64 (py u))).other (b':=B) (by omega) 2 (.bool (pb u));have hb8:=((hb.setCell (p:=⟨B,0,none⟩) (Nat.le_of_lt hlt) (int u64 (px u))).setCell (p:=⟨B,1,none⟩) (Nat.le_of_lt hlt) (int u64 (py u))).setCell (p:=⟨B,2,none⟩) (Nat.le_of_lt hlt) (.bool (pb u));clear c0 c1 c2 cf r5 r13 hb;generalize ((w7.setCell ⟨B,0,none⟩ (int u64 (px u))).setCell ⟨B,1,none⟩ (int u64 (py u))).setCell ⟨B,2,none⟩ (.bool (pb u))=W8 at*;have k0:W8.drew.cell? ⟨B,0,none⟩=_:=s13.cell (k:=0) rfl;have k1:W8.drew.cell? ⟨B,1,none⟩=_:=s13.cell (k:=1) rfl;have k2:W8.drew.cell? ⟨B,2,none⟩=_:=s13.cell (k:=2) rfl;have n0:B∉ [w.heap.size]:=fun h=>absurd (List.mem_singleton.1 h) (by omega)
    have l1:w.heap.size<W8.drew.heap.size:=s5.lt
    refine G.pool_list (W:=W8) [w.heap.size] [.val (.int .i64 2),
        .val (.string s),
        .val (.string t),
        .val (.agg #[int u64 (px u),int u64 (py u),.bool (pb u)]),
        .val (int u64 (k:Int)),
        .val (.int .i64 2),
        .val (.string s),
        .val (.string t),
        .set (w.heap.size) (.cells #[int u64 0,int u64 0,.bool false] 25) (.cells #[int u64 (px u),int u64 (py u),.bool (pb u)] 25),
        .val (int u64 (k:Int))] [[7],[8],[9],[13],[15],[53],[54],[55],[5,56],[57]] (fun f=> [(some 53,.int .i64 2),(some 54,.string s),(some 55,.string t),(some 56,.agg #[int u64 (px u),int u64 (py u),.bool (pb u)]),(some 57,int u64 (k:Int)),(some 2,.int .i64 2),(some 3,.string s),(some 4,.string t),(none,undef),(some 6,int u64 (k:Int))]) (by kernel_rfl) (by kernel_rfl) (by kernel_rfl) (by kernel_rfl) (fun _=>by kernel_rfl) (G.last_of [.cells #[int u64 0,int u64 0,.bool false] 25] (fun F R hm=>by simp at hm) (fun ob ob' k hm=>by simp at hm) (fun b ob ob' hm=>by simp at hm;simp [hm])) (fun b ob ob' hm=>by simp at hm;obtain⟨rfl,rfl,-⟩:=hm;exact s5) ?_ ?_
    · intro ix hix
      match ix,hix with
      |0,_=>exact G.obv [(7,.int .i64 2)] rfl rfl (fun A w ⟨e0,_⟩ hB=>doV_move e0)
      |1,_=>exact G.obv [(8,.string s)] rfl rfl (fun A w ⟨e0,_⟩ hB=>doV_move e0)
      |2,_=>exact G.obv [(9,.string t)] rfl rfl (fun A w ⟨e0,_⟩ hB=>doV_move e0)
      |3,_=>exact G.obv [(13,.pointer (some ⟨B,0,none⟩))] rfl rfl (fun A w ⟨e0,_⟩ hB=>ld_pt e0 (hB.cell k0 n0) (hB.cell k1 n0) (hB.cell k2 n0))
      |4,_=>exact G.obv [(15,int u64 (k:Int))] rfl rfl (fun A w ⟨e0,_⟩ hB=>doV_move e0)
      |5,_=>exact G.obv [(53,.int .i64 2)] rfl rfl (fun A w ⟨e0,_⟩ hB=>doV_assign e0)
      |6,_=>exact G.obv [(54,.string s)] rfl rfl (fun A w ⟨e0,_⟩ hB=>doV_assign e0)
      |7,_=>exact G.obv [(55,.string t)] rfl rfl (fun A w ⟨e0,_⟩ hB=>doV_assign e0)
      |8,_=>exact G.ob_set (fun f=> [(5,.pointer (some ⟨w.heap.size,0,none⟩)),(56,.agg #[int u64 (px u),int u64 (py u),.bool (pb u)])]) rfl rfl rfl (by simp) l1 (fun j ob1 ob2 h=>by (rcases j with _|_|_|_|_|_|_|_|_|_|j)<;>simp [G.kindOf] at h⊢ <;>omega) (fun _=>by kernel_rfl) (fun f A w ⟨e0,e1,_⟩ hh hr=>pu_pt e0 e1 hr)
      |9,_=>exact G.obv [(57,int u64 (k:Int))] rfl rfl (fun A w ⟨e0,_⟩ hB=>doV_assign e0)
      |ix+10,h=>exact absurd h (by simp)
    intro f W9 hS _ _ _ hset;have q1:Bk W9 25 w.heap.size #[int u64 (px u),int u64 (py u),.bool (pb u)]:=hset 8 _ _ _ rfl (by decide);have hb9:Bl w W9:=hS.under hb8.drew (by intro b h;rw [List.mem_singleton.1 h];exact Nat.le_refl _) hb8.size;clear hset hS k0 k1 k2;simp only [puts,List.foldl,Act.put,List.setIfInBounds_toArray,List.set_cons_zero,List.set_cons_succ];go_wp2;exact bodyPost_ret (v:= .tuple #[.int .i64 2,.string s,.string t,.agg #[int u64 (px u),int u64 (py u),.bool (pb u)],int u64 k]) (tctt_res (fn:=Tryz.f5) (p:=5) results5 _ rfl q1) rfl ⟨⟨_,s,t,_,_,_,k,hs,ht,hk,rfl⟩,hb9⟩
  · have hc': ¬ ((h:Int)=0∧m=2):=fun e=>hc ⟨by omega,e.2⟩
    by_cases h0:h=0
    · have m2: ¬ m=2:=fun e=>hc ⟨h0,e⟩
      subst h0;clear hc hc';go_wp2;have k0:w3.drew.cell? ⟨B,0,none⟩=_:=r13.cell (k:=0) rfl;have k1:w3.drew.cell? ⟨B,1,none⟩=_:=r13.cell (k:=1) rfl;have k2:w3.drew.cell? ⟨B,2,none⟩=_:=r13.cell (k:=2) rfl;have n0:B∉ [w.heap.size]:=fun h=>absurd (List.mem_singleton.1 h) (by omega)
      have l1:w.heap.size<w3.drew.heap.size:=r5.lt
      refine G.pool_list (W:=w3) [w.heap.size] [.val (.int .i64 m),
          .val (.string s),
          .val (.string t),
          .val (.agg #[int u64 (x:Int),int u64 (y:Int),.bool c]),
          .val (int u64 (k:Int)),
          .val (.int .i64 m),
          .val (.string s),
          .val (.string t),
          .set (w.heap.size) (.cells #[int u64 0,int u64 0,.bool false] 25) (.cells #[int u64 (x:Int),int u64 (y:Int),.bool c] 25),
          .val (int u64 (k:Int))] [[7],[8],[9],[13],[15],[53],[54],[55],[5,56],[57]] (fun f=> [(some 53,.int .i64 m),(some 54,.string s),(some 55,.string t),(some 56,.agg #[int u64 (x:Int),int u64 (y:Int),.bool c]),(some 57,int u64 (k:Int)),(some 2,.int .i64 m),(some 3,.string s),(some 4,.string t),(none,undef),(some 6,int u64 (k:Int))]) (by kernel_rfl) (by kernel_rfl) (by kernel_rfl) (by kernel_rfl) (fun _=>by kernel_rfl) (G.last_of [.cells #[int u64 0,int u64 0,.bool false] 25] (fun F R hm=>by simp at hm) (fun ob ob' k hm=>by simp at hm) (fun b ob ob' hm=>by simp at hm;simp [hm])) (fun b ob ob' hm=>by simp at hm;obtain⟨rfl,rfl,-⟩:=hm;exact r5) ?_ ?_
      · intro ix hix
        match ix,hix with
        |0,_=>exact G.obv [(7,.int .i64 m)] rfl rfl (fun A w ⟨e0,_⟩ hB=>doV_move e0)
        |1,_=>exact G.obv [(8,.string s)] rfl rfl (fun A w ⟨e0,_⟩ hB=>doV_move e0)
        |2,_=>exact G.obv [(9,.string t)] rfl rfl (fun A w ⟨e0,_⟩ hB=>doV_move e0)
        |3,_=>exact G.obv [(13,.pointer (some ⟨B,0,none⟩))] rfl rfl (fun A w ⟨e0,_⟩ hB=>ld_pt e0 (hB.cell k0 n0) (hB.cell k1 n0) (hB.cell k2 n0))
        |4,_=>exact G.obv [(15,int u64 (k:Int))] rfl rfl (fun A w ⟨e0,_⟩ hB=>doV_move e0)
        |5,_=>exact G.obv [(53,.int .i64 m)] rfl rfl (fun A w ⟨e0,_⟩ hB=>doV_assign e0)
        |6,_=>exact G.obv [(54,.string s)] rfl rfl (fun A w ⟨e0,_⟩ hB=>doV_assign e0)
        |7,_=>exact G.obv [(55,.string t)] rfl rfl (fun A w ⟨e0,_⟩ hB=>doV_assign e0)
        |8,_=>exact G.ob_set (fun f=> [(5,.pointer (some ⟨w.heap.size,0,none⟩)),(56,.agg #[int u64 (x:Int),int u64 (y:Int),.bool c])]) rfl rfl rfl (by simp) l1 (fun j ob1 ob2 h=>by (rcases j with _|_|_|_|_|_|_|_|_|_|j)<;>simp [G.kindOf] at h⊢ <;>omega) (fun _=>by kernel_rfl) (fun f A w ⟨e0,e1,_⟩ hh hr=>pu_pt e0 e1 hr)
        |9,_=>exact G.obv [(57,int u64 (k:Int))] rfl rfl (fun A w ⟨e0,_⟩ hB=>doV_assign e0)
        |ix+10,h=>exact absurd h (by simp)
      intro f W9 hS _ _ _ hset;have q1:Bk W9 25 w.heap.size #[int u64 (x:Int),int u64 (y:Int),.bool c]:=hset 8 _ _ _ rfl (by decide);have hb9:Bl w W9:=hS.under hb.drew (by intro b h;rw [List.mem_singleton.1 h];exact Nat.le_refl _) hb.size;clear hset hS k0 k1 k2;simp only [puts,List.foldl,Act.put,List.setIfInBounds_toArray,List.set_cons_zero,List.set_cons_succ];go_wp2;exact bodyPost_ret (v:= .tuple #[.int .i64 m,.string s,.string t,.agg #[int u64 (x:Int),int u64 (y:Int),.bool c],int u64 k]) (tctt_res (fn:=Tryz.f5) (p:=5) results5 _ rfl q1) rfl ⟨⟨_,s,t,_,_,_,k,hs,ht,hk,rfl⟩,hb9⟩
    · have h0': ¬ (h:Int)=0:=by omega
      clear hc hc';go_wp2;have k0:w3.drew.cell? ⟨B,0,none⟩=_:=r13.cell (k:=0) rfl;have k1:w3.drew.cell? ⟨B,1,none⟩=_:=r13.cell (k:=1) rfl;have k2:w3.drew.cell? ⟨B,2,none⟩=_:=r13.cell (k:=2) rfl;have n0:B∉ [w.heap.size]:=fun h=>absurd (List.mem_singleton.1 h) (by omega)
      have l1:w.heap.size<w3.drew.heap.size:=r5.lt
      refine G.pool_list (W:=w3) [w.heap.size] [.val (.int .i64 m),
          .val (.string s),
          .val (.string t),
          .val (.agg #[int u64 (x:Int),int u64 (y:Int),.bool c]),
          .val (int u64 (k:Int)),
          .val (.int .i64 m),
          .val (.string s),
          .val (.string t),
          .set (w.heap.size) (.cells #[int u64 0,int u64 0,.bool false] 25) (.cells #[int u64 (x:Int),int u64 (y:Int),.bool c] 25),
          .val (int u64 (k:Int))] [[7],[8],[9],[13],[15],[53],[54],[55],[5,56],[57]] (fun f=> [(some 53,.int .i64 m),(some 54,.string s),(some 55,.string t),(some 56,.agg #[int u64 (x:Int),int u64 (y:Int),.bool c]),(some 57,int u64 (k:Int)),(some 2,.int .i64 m),(some 3,.string s),(some 4,.string t),(none,undef),(some 6,int u64 (k:Int))]) (by kernel_rfl) (by kernel_rfl) (by kernel_rfl) (by kernel_rfl) (fun _=>by kernel_rfl) (G.last_of [.cells #[int u64 0,int u64 0,.bool false] 25] (fun F R hm=>by simp at hm) (fun ob ob' k hm=>by simp at hm) (fun b ob ob' hm=>by simp at hm;simp [hm])) (fun b ob ob' hm=>by simp at hm;obtain⟨rfl,rfl,-⟩:=hm;exact r5) ?_ ?_
      · intro ix hix
        match ix,hix with
        |0,_=>exact G.obv [(7,.int .i64 m)] rfl rfl (fun A w ⟨e0,_⟩ hB=>doV_move e0)
        |1,_=>exact G.obv [(8,.string s)] rfl rfl (fun A w ⟨e0,_⟩ hB=>doV_move e0)
        |2,_=>exact G.obv [(9,.string t)] rfl rfl (fun A w ⟨e0,_⟩ hB=>doV_move e0)
        |3,_=>exact G.obv [(13,.pointer (some ⟨B,0,none⟩))] rfl rfl (fun A w ⟨e0,_⟩ hB=>ld_pt e0 (hB.cell k0 n0) (hB.cell k1 n0) (hB.cell k2 n0))
        |4,_=>exact G.obv [(15,int u64 (k:Int))] rfl rfl (fun A w ⟨e0,_⟩ hB=>doV_move e0)
        |5,_=>exact G.obv [(53,.int .i64 m)] rfl rfl (fun A w ⟨e0,_⟩ hB=>doV_assign e0)
        |6,_=>exact G.obv [(54,.string s)] rfl rfl (fun A w ⟨e0,_⟩ hB=>doV_assign e0)
        |7,_=>exact G.obv [(55,.string t)] rfl rfl (fun A w ⟨e0,_⟩ hB=>doV_assign e0)
        |8,_=>exact G.ob_set (fun f=> [(5,.pointer (some ⟨w.heap.size,0,none⟩)),(56,.agg #[int u64 (x:Int),int u64 (y:Int),.bool c])]) rfl rfl rfl (by simp) l1 (fun j ob1 ob2 h=>by (rcases j with _|_|_|_|_|_|_|_|_|_|j)<;>simp [G.kindOf] at h⊢ <;>omega) (fun _=>by kernel_rfl) (fun f A w ⟨e0,e1,_⟩ hh hr=>pu_pt e0 e1 hr)
        |9,_=>exact G.obv [(57,int u64 (k:Int))] rfl rfl (fun A w ⟨e0,_⟩ hB=>doV_assign e0)
        |ix+10,h=>exact absurd h (by simp)
      intro f W9 hS _ _ _ hset;have q1:Bk W9 25 w.heap.size #[int u64 (x:Int),int u64 (y:Int),.bool c]:=hset 8 _ _ _ rfl (by decide);have hb9:Bl w W9:=hS.under hb.drew (by intro b h;rw [List.mem_singleton.1 h];exact Nat.le_refl _) hb.size;clear hset hS k0 k1 k2;simp only [puts,List.foldl,Act.put,List.setIfInBounds_toArray,List.set_cons_zero,List.set_cons_succ];go_wp2;exact bodyPost_ret (v:= .tuple #[.int .i64 m,.string s,.string t,.agg #[int u64 (x:Int),int u64 (y:Int),.bool c],int u64 k]) (tctt_res (fn:=Tryz.f5) (p:=5) results5 _ rfl q1) rfl ⟨⟨_,s,t,_,_,_,k,hs,ht,hk,rfl⟩,hb9⟩
end
end Go.Proofs.YtjmhmajfkdglnabGreatDoor
