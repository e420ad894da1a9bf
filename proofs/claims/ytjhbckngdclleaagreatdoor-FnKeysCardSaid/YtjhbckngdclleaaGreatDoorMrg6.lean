import Derived.Test.YtjhbckngdclleaaGreatDoorMrg5
set_option linter.unusedVariables false
set_option maxRecDepth 100000
set_option maxHeartbeats 16000000
namespace Go.Proofs.YtjhbckngdclleaaGreatDoor
open Go.Proofs.Tryz Go.RowKit
open Go.Value (int)
open Go.IntKind (u64)
section
open M
theorem val_lt (a:Fp):a.val<2305843009213693951:=a.isLt
theorem fadd (x y:Int)(a b:Fp)(hx:x=a.val)(hy:y=b.val)(w:World):
    Calls prog 130 #[int u64 x,int u64 y,int u64 2305843009213693951] w fun e w'=>e= .returned (int u64 ((a+b).val:Nat))∧w=w':=by
  have:=l2add_int x y a.val b.val 2305843009213693951 hx hy w a.isLt b.isLt (by decide);rw [Fin.val_add];exact this
theorem fmul (x y:Int)(a b:Fp)(hx:x=a.val)(hy:y=b.val)(w:World):
    Calls prog 127 #[int u64 x,int u64 y] w fun e w'=>e= .returned (int u64 ((a*b).val:Nat))∧w=w':=by
  subst hx hy;rw [Fin.val_mul];exact l2times_any a.val b.val w a.isLt b.isLt
theorem fi_val (a:Fp):(fi a).val=ivn 2305843009213693951 a.val:=by
  unfold fi ivn;generalize a.val^(2305843009213693951-2)=z;show z%2305843009213693951%2305843009213693951=_;omega
theorem finv (x:Int)(a:Fp)(hx:x=a.val)(w:World):
    Calls prog 94 #[int u64 x,int u64 2305843009213693951] w fun e w'=>e= .returned (int u64 ((fi a).val:Nat))∧w=w':=by
  subst hx;rw [fi_val];exact invS_any a.val 2305843009213693951 w (Nat.lt_trans a.isLt (by decide)) (by decide) (by decide)
theorem fsub (x y:Int)(a b:Fp)(hx:x=a.val)(hy:y=b.val)(w:World):
    Calls prog 129 #[int u64 x,int u64 y] w fun e w'=>e= .returned (int u64 ((a-b).val:Nat))∧w=w':=by
  subst hx hy;have ha:=val_lt a;have hb:=val_lt b;have e:a-b=a+(0-b):=by grobner
  have e2:(0-b).val=(2305843009213693951-b.val)%2305843009213693951:=by
    rw [Fin.val_sub];rfl
  have L:=fun w x hx=>fadd (a.val:Int) x a (0-b) rfl hx w
  rw [←e] at L;have hx:Hid ((2305843009213693951-(b.val:Int))%2305843009213693951=((0-b).val:Nat)):=by simp only [Hid];rw [e2];omega
  clear e e2;generalize (a-b).val=c at*;generalize (0-b).val=d at*;generalize a.val=A at*;generalize b.val=B at*;go_enter func129,ntmps129;go_wp2_with fail;refine(L _ _ (by have:=hx.out;omega)).mono ?_;rintro e w' ⟨rfl,rfl⟩;clear L hx;go_wp2;go_ret;exact⟨rfl,rfl⟩
theorem fmul_v (a b:Fp)(w:World):
    Calls prog 127 #[int u64 (a.val:Nat),int u64 (b.val:Nat)] w fun e w'=>e= .returned (int u64 ((a*b).val:Nat))∧w=w':=fmul _ _ a b rfl rfl w
theorem fsub_v (a b:Fp)(w:World):
    Calls prog 129 #[int u64 (a.val:Nat),int u64 (b.val:Nat)] w fun e w'=>e= .returned (int u64 ((a-b).val:Nat))∧w=w':=fsub _ _ a b rfl rfl w
theorem rightS (x:Fp)(w:World):
    Calls prog 128 #[int u64 (x.val:Nat)] w fun e w'=>e= .returned (int u64 ((crv x).val:Nat))∧w=w':=by
  have e:crv x=x*x*x-3*x+111:=rfl;have L1:=fmul_v (w:=w) x x;have L2:=fmul_v (w:=w) (x*x) x;have L3:=fmul (w:=w) 3 (x.val:Nat) 3 x rfl rfl;have L4:=fsub_v (w:=w) (x*x*x) (3*x);have L5:=fadd (w:=w) ((x*x*x-3*x).val:Nat) 111 (x*x*x-3*x) 111 rfl rfl;rw [←e] at L5;clear e;have hx:=val_lt x;generalize (crv x).val=r at*;generalize (x*x*x-3*x).val=r4 at*;generalize (3*x).val=r3 at*;generalize (x*x*x).val=r2 at*;generalize (x*x).val=r1 at*;generalize x.val=X at*;go_enter func128,ntmps128;go_wp2_with fail;refine L1.mono ?_;rintro e w' ⟨rfl,rfl⟩;clear L1;go_wp2_with fail;refine L2.mono ?_;rintro e w' ⟨rfl,rfl⟩;clear L2;go_wp2_with fail;refine L3.mono ?_;rintro e w' ⟨rfl,rfl⟩;clear L3;go_wp2_with fail;refine L4.mono ?_;rintro e w' ⟨rfl,rfl⟩;clear L4;go_wp2_with fail;refine L5.mono ?_;rintro e w' ⟨rfl,rfl⟩;clear L5;go_wp2;go_ret;exact⟨rfl,rfl⟩
def fv (a:Fp):Int:=(a.val:Int)
theorem vsub (a b:Fp)(w:World):Calls prog 129 #[int u64 (fv a),int u64 (fv b)] w fun e w'=>e= .returned (int u64 (fv (a-b)))∧w=w':=fsub_v a b w
theorem vsub3 (a:Fp)(w:World):Calls prog 129 #[int u64 (fv a),int u64 3] w fun e w'=>e= .returned (int u64 (fv (a-3)))∧w=w':=fsub _ 3 a 3 rfl rfl w
theorem vmul (a b:Fp)(w:World):Calls prog 127 #[int u64 (fv a),int u64 (fv b)] w fun e w'=>e= .returned (int u64 (fv (a*b)))∧w=w':=fmul_v a b w
theorem vmul3 (a:Fp)(w:World):Calls prog 127 #[int u64 3,int u64 (fv a)] w fun e w'=>e= .returned (int u64 (fv (3*a)))∧w=w':=fmul 3 _ 3 a rfl rfl w
theorem vadd (a b:Fp)(w:World):Calls prog 130 #[int u64 (fv a),int u64 (fv b),int u64 2305843009213693951] w fun e w'=>e= .returned (int u64 (fv (a+b)))∧w=w':=fadd _ _ a b rfl rfl w
theorem vinv (a:Fp)(w:World):Calls prog 94 #[int u64 (fv a),int u64 2305843009213693951] w fun e w'=>e= .returned (int u64 (fv (fi a)))∧w=w':=finv _ a rfl w
theorem fv_eq (a b:Fp):(fv a==fv b)=decide (a=b):=by
  rw [Bool.eq_iff_iff];simp [fv,Fin.ext_iff];omega
theorem fv_zero (a:Fp):(fv a==0)=decide (a=0):=fv_eq a 0
def ptW:Pt→Value
  |none=> .agg #[int u64 0,int u64 0,.bool true]
  |some (x,y)=> .agg #[int u64 (fv x),int u64 (fv y),.bool false]
theorem zeroS (w:World):Calls prog 69 #[] w fun e w'=>e= .returned (.agg #[int u64 0,int u64 0,.bool true])∧w'=w.alloc (.cells #[int u64 0,int u64 0,.bool true] 27):=by
  go_enter func69,ntmps69;go_wp2;refine bodyPost_ret (v:= .agg #[int u64 0,int u64 0,.bool true]) (by simp [results,results69,go_sem]) rfl ⟨rfl,by simp⟩
theorem sumS_inf (x y:Int)(b:Bool)(w:World):
    Cr 71 #[.agg #[int u64 0,int u64 0,.bool true],.agg #[int u64 x,int u64 y,.bool b]] w (.agg #[int u64 x,int u64 y,.bool b]):=by
  go_enter func71,ntmps71;go_wp2;refine bodyPost_ret (v:= .agg #[int u64 x,int u64 y,.bool b]) (by simp [results,results71,go_sem]) rfl ⟨rfl,?_⟩;exact(((Below.refl _ w).alloc (Nat.le_refl _) _).alloc (by simp) _).alloc (by simp;omega) _
theorem sumS_inf2 (x y:Int)(w:World):
    Cr 71 #[.agg #[int u64 x,int u64 y,.bool false],.agg #[int u64 0,int u64 0,.bool true]] w (.agg #[int u64 x,int u64 y,.bool false]):=by
  go_enter func71,ntmps71;go_wp2;refine bodyPost_ret (v:= .agg #[int u64 x,int u64 y,.bool false]) (by simp [results,results71,go_sem]) rfl ⟨rfl,?_⟩;exact(((Below.refl _ w).alloc (Nat.le_refl _) _).alloc (by simp) _).alloc (by simp;omega) _
theorem sumS_opp (x y z:Fp)(w:World)(h:y+z=0):
    Cr 71 #[.agg #[int u64 (fv x),int u64 (fv y),.bool false],.agg #[int u64 (fv x),int u64 (fv z),.bool false]] w (.agg #[int u64 0,int u64 0,.bool true]):=by
  have h1:fv (y+z)=0:=by rw [h];rfl
  clear h;go_enter func71,ntmps71
  go_wp2_with (first
    |(go_at_call 129;refine(vsub _ _ _).mono ?_;rintro e w' ⟨rfl,rfl⟩)
    |(go_at_call 130;refine(vadd _ _ _).mono ?_;rintro e w' ⟨rfl,rfl⟩)
    |(go_at_call 69;refine(zeroS _).mono ?_;rintro e w' ⟨rfl,rfl⟩))
  refine bodyPost_ret (v:= .agg #[int u64 0,int u64 0,.bool true]) (by simp [results,results71,go_sem]) rfl ⟨rfl,?_⟩;exact((((Below.refl _ w).alloc (Nat.le_refl _) _).alloc (by simp) _).alloc (by simp;omega) _).alloc (by simp;omega) _
theorem sumS_dif (x y u v:Fp)(w:World)(h:x≠u):
    Cr 71 #[.agg #[int u64 (fv x),int u64 (fv y),.bool false],.agg #[int u64 (fv u),int u64 (fv v),.bool false]] w (ptW (third x y u ((v-y)*fi (u-x)))):=by
  have h1:(fv x==fv u)=false:=by rw [fv_eq];simp [h]
  clear h;go_enter func71,ntmps71
  go_wp2_with (first
    |(go_at_call 129;refine(vsub _ _ _).mono ?_;rintro e w' ⟨rfl,rfl⟩)
    |(go_at_call 94;refine(vinv _ _).mono ?_;rintro e w' ⟨rfl,rfl⟩)
    |(go_at_call 127;refine(vmul _ _ _).mono ?_;rintro e w' ⟨rfl,rfl⟩))
  go_region_held3 (fun w'=>w'.cell? ⟨w.heap.size,0,none⟩=some (int u64 (fv x))∧w'.cell? ⟨w.heap.size,1,none⟩=some (int u64 (fv y))∧w'.cell? ⟨w.heap.size+1,0,none⟩=some (int u64 (fv u))) (go_keep) (first
    |(go_at_call 129;refine(vsub _ _ _).mono ?_;rintro e w' ⟨rfl,rfl⟩)
    |(go_at_call 127;refine(vmul _ _ _).mono ?_;rintro e w' ⟨rfl,rfl⟩))
  go_wp2
  go_region_held3 (fun w'=>w'.cell? ⟨w.heap.size,0,none⟩=some (int u64 (fv x))∧w'.cell? ⟨w.heap.size,1,none⟩=some (int u64 (fv y))∧w'.cell? ⟨w.heap.size+1,0,none⟩=some (int u64 (fv u))) (go_keep) (first
    |(go_at_call 129;refine(vsub _ _ _).mono ?_;rintro e w' ⟨rfl,rfl⟩)
    |(go_at_call 127;refine(vmul _ _ _).mono ?_;rintro e w' ⟨rfl,rfl⟩))
  go_wp2;refine bodyPost_ret (v:=ptW (third x y u ((v-y)*fi (u-x)))) (by simp [results,results71,go_sem,ptW,third]) rfl ⟨rfl,?_⟩;exact(((((Below.refl _ w).alloc (Nat.le_refl _) _).alloc (by simp) _).alloc (by simp;omega) _).drew).drew
theorem sumS_dbl (x y z:Fp)(w:World)(h:y+z≠0):
    Cr 71 #[.agg #[int u64 (fv x),int u64 (fv y),.bool false],.agg #[int u64 (fv x),int u64 (fv z),.bool false]] w (ptW (third x y x ((3*(x*x)-3)*fi (y+y)))):=by
  have h1:(fv (y+z)==0)=false:=by rw [fv_zero];simp [h]
  clear h;go_enter func71,ntmps71;go_wp2_with fail;refine(vsub z y _).mono ?_;rintro e w' ⟨rfl,rfl⟩;go_wp2_with fail;refine(vsub x x _).mono ?_;rintro e w' ⟨rfl,rfl⟩;go_wp2_with fail;refine(vadd y z _).mono ?_;rintro e w' ⟨rfl,rfl⟩;go_wp2_with fail;refine(vmul x x _).mono ?_;rintro e w' ⟨rfl,rfl⟩;go_wp2_with fail;refine(vmul3 (x*x) _).mono ?_;rintro e w' ⟨rfl,rfl⟩;go_wp2_with fail;refine(vsub3 (3*(x*x)) _).mono ?_;rintro e w' ⟨rfl,rfl⟩;go_wp2_with fail;refine(vadd y y _).mono ?_;rintro e w' ⟨rfl,rfl⟩;go_wp2_with fail;refine(vinv (y+y) _).mono ?_;rintro e w' ⟨rfl,rfl⟩;go_wp2_with fail;refine(vmul (3*(x*x)-3) (fi (y+y)) _).mono ?_;rintro e w' ⟨rfl,rfl⟩;go_wp2_with fail
  go_region_held3 (fun w'=>w'.cell? ⟨w.heap.size,0,none⟩=some (int u64 (fv x))∧w'.cell? ⟨w.heap.size,1,none⟩=some (int u64 (fv y))∧w'.cell? ⟨w.heap.size+1,0,none⟩=some (int u64 (fv x))) (go_keep) (first
    |(go_at_call 129;refine(vsub _ _ _).mono ?_;rintro e w' ⟨rfl,rfl⟩)
    |(go_at_call 127;refine(vmul _ _ _).mono ?_;rintro e w' ⟨rfl,rfl⟩))
  go_wp2
  go_region_held3 (fun w'=>w'.cell? ⟨w.heap.size,0,none⟩=some (int u64 (fv x))∧w'.cell? ⟨w.heap.size,1,none⟩=some (int u64 (fv y))∧w'.cell? ⟨w.heap.size+1,0,none⟩=some (int u64 (fv x))) (go_keep) (first
    |(go_at_call 129;refine(vsub _ _ _).mono ?_;rintro e w' ⟨rfl,rfl⟩)
    |(go_at_call 127;refine(vmul _ _ _).mono ?_;rintro e w' ⟨rfl,rfl⟩))
  go_wp2;refine bodyPost_ret (v:=ptW (third x y x ((3*(x*x)-3)*fi (y+y)))) (by simp [results,results71,go_sem,ptW,third]) rfl ⟨rfl,?_⟩;exact(((((Below.refl _ w).alloc (Nat.le_refl _) _).alloc (by simp) _).alloc (by simp;omega) _).drew).drew
theorem sumS_any (p q:Pt)(w:World):
    Cr 71 #[ptW p,ptW q] w (ptW (ad p q)):=by
  rcases p with _|⟨x,y⟩
  · rcases q with _|⟨u,v⟩
    · exact sumS_inf 0 0 true w
    · exact sumS_inf (fv u) (fv v) false w
  · rcases q with _|⟨u,v⟩
    · exact sumS_inf2 (fv x) (fv y) w
    · by_cases hx:x=u
      · subst hx;by_cases hy:y+v=0
        · rw [ad_c0 rfl hy];exact sumS_opp x y v w hy
        · rw [ad_c1 rfl hy];exact sumS_dbl x y v w hy
      · rw [ad_c2 hx];exact sumS_dif x y u v w hx
section
variable {W:World}{b:Nat}{x y:Int}{c:Bool}
def set3 (W:World)(b:Nat)(x y:Int)(c:Bool):World:=((W.setCell ⟨b,0,none⟩ (int u64 x)).setCell ⟨b,1,none⟩ (int u64 y)).setCell ⟨b,2,none⟩ (.bool c)
theorem setCell_heap3 (W:World)(b i:Nat)(v:Value)(k:Nat)(h:k≠b):(W.setCell ⟨b,i,none⟩ v).heap[k]? =W.heap[k]? :=by
  simp [World.setCell,Array.getElem?_modify,Ne.symm h]
theorem set3_below {N:Nat}{w:World}(h:Below N w W)(hb:N≤b):Below N w (set3 W b x y c):=
  ((h.setCell (p:=⟨b,0,none⟩) hb _).setCell (p:=⟨b,1,none⟩) hb _).setCell (p:=⟨b,2,none⟩) hb _
end
def K3 (W:World)(t:TypeId)(b:Nat)(x y:Int)(c:Bool):Prop:=W.heap[b]? =some (.cells #[int u64 x,int u64 y,.bool c] t)
section
variable {W W':World}{t:TypeId}{b:Nat}{x y:Int}{c:Bool}
theorem K3.c0 (h:K3 W t b x y c):W.cell? ⟨b,0,none⟩=some (int u64 x):=by unfold K3 at h;simp [World.cell?,h]
theorem K3.c1 (h:K3 W t b x y c):W.cell? ⟨b,1,none⟩=some (int u64 y):=by unfold K3 at h;simp [World.cell?,h]
theorem K3.c2 (h:K3 W t b x y c):W.cell? ⟨b,2,none⟩=some (.bool c):=by unfold K3 at h;simp [World.cell?,h]
theorem K3.frz (h:K3 W t b x y c)(i:Nat):W.frozen? ⟨b,i,none⟩=false:=by unfold K3 at h;simp [World.frozen?,h]
theorem K3.lt (h:K3 W t b x y c):b<W.heap.size:=(Array.getElem?_eq_some_iff.1 h).1
theorem K3.keep (h:K3 W t b x y c)(hb:Bl W W'):K3 W' t b x y c:=(hb.block b h.lt).trans h
theorem K3.new (w:World)(t:TypeId)(x y:Int)(c:Bool):K3 (w.alloc (.cells #[int u64 x,int u64 y,.bool c] t)) t w.heap.size x y c:=heap_alloc_new w _
theorem K3.alloc (h:K3 W t b x y c)(o:Obj):K3 (W.alloc o) t b x y c:=(Below.heap_alloc W o b h.lt).trans h
theorem K3.drew (h:K3 W t b x y c):K3 W.drew t b x y c:=h
theorem K3.at {b':Nat}(h:K3 W t b x y c)(e:b=b'):K3 W t b' x y c:=e▸h
theorem K3.range (h:K3 W t b x y c):W.rangeAt b 0 [int u64 x,int u64 y,.bool c]:=fun j v hj=>by
  match j,hj with
  |0,hj=>cases hj;exact h.c0
  |1,hj=>cases hj;exact h.c1
  |2,hj=>cases hj;exact h.c2
theorem K3.set (h:K3 W t b x y c)(x' y':Int)(c':Bool):K3 (set3 W b x' y' c') t b x' y' c':=by
  unfold K3 set3 at*;simp [World.setCell,Array.getElem?_modify,h]
theorem cp_res {fn:Func}{p:Tmp}(h:fn.results=#[.cell p 101])(tmps:Array Value)(hp:tmps.getD p undef= .pointer (some ⟨b,0,none⟩))(hc:K3 W 101 b x y c):
    (results fn tmps).run prog W= .ok (.agg #[int u64 x,int u64 y,.bool c]) W:=
  results_mid h tmps W b 0 [int u64 x,int u64 y,.bool c] _ hp hc.range underlying101 rfl (by kernel_rfl)
theorem pt_res {fn:Func}{p:Tmp}(h:fn.results=#[.cell p 27])(tmps:Array Value)(hp:tmps.getD p undef= .pointer (some ⟨b,0,none⟩))(hc:K3 W 27 b x y c):
    (results fn tmps).run prog W= .ok (.agg #[int u64 x,int u64 y,.bool c]) W:=
  results_mid h tmps W b 0 [int u64 x,int u64 y,.bool c] _ hp hc.range underlying27 rfl (by kernel_rfl)
end
theorem fldP (z:Int)(w:World):(Instr.field 167 (.agg #[int u64 z]) 1).run prog w= .ok (int u64 z) w:=by kernel_rfl
theorem fldK (X Y:Int)(c:Bool)(w:World):(Instr.field 101 (.agg #[int u64 X,int u64 Y,.bool c]) 0).run prog w= .ok (.agg #[int u64 X,int u64 Y,.bool c]) w:=by kernel_rfl
end
section
open M
def px:Pt→Int
  |none=>0
  |some (x,_)=>fv x
def py:Pt→Int
  |none=>0
  |some (_,y)=>fv y
def pb:Pt→Bool
  |none=>true
  |some _=>false
theorem ptW_eq:∀p,ptW p= .agg #[int u64 (px p),int u64 (py p),.bool (pb p)]
  |none=>rfl
  |some (_,_)=>rfl
theorem sumS_xyz (p q:Pt)(w:World):
    Cr 71 #[.agg #[int u64 (px p),int u64 (py p),.bool (pb p)],.agg #[int u64 (px q),int u64 (py q),.bool (pb q)]] w (.agg #[int u64 (px (ad p q)),int u64 (py (ad p q)),.bool (pb (ad p q))]):=by
  have:=sumS_any p q w;rwa [ptW_eq,ptW_eq,ptW_eq] at this
def R3 (W:World)(b:Nat)(x y:Int)(c:Bool):Prop:=W.heap[b]? =some (.cells #[int u64 x,int u64 y,.bool c] 27)
variable {W W':World}{b:Nat}{x y:Int}{c:Bool}
theorem R3.c0 (h:R3 W b x y c):W.cell? ⟨b,0,none⟩=some (int u64 x):=by unfold R3 at h;simp [World.cell?,h]
theorem R3.c1 (h:R3 W b x y c):W.cell? ⟨b,1,none⟩=some (int u64 y):=by unfold R3 at h;simp [World.cell?,h]
theorem R3.c2 (h:R3 W b x y c):W.cell? ⟨b,2,none⟩=some (.bool c):=by unfold R3 at h;simp [World.cell?,h]
theorem R3.frz (h:R3 W b x y c)(i:Nat):W.frozen? ⟨b,i,none⟩=false:=by unfold R3 at h;simp [World.frozen?,h]
theorem R3.lt (h:R3 W b x y c):b<W.heap.size:=(Array.getElem?_eq_some_iff.1 h).1
theorem R3.below {N:Nat}(h:R3 W b x y c)(hb:Below N W W')(hl:b<N):R3 W' b x y c:=(hb.block b hl).trans h
theorem R3.new (w:World)(x y:Int)(c:Bool):R3 (w.alloc (.cells #[int u64 x,int u64 y,.bool c] 27)) w.heap.size x y c:=heap_alloc_new w _
theorem R3.alloc (h:R3 W b x y c)(o:Obj):R3 (W.alloc o) b x y c:=(Below.heap_alloc W o b h.lt).trans h
theorem R3.at {b':Nat}(h:R3 W b x y c)(e:b=b'):R3 W b' x y c:=e▸h
theorem R3.range (h:R3 W b x y c):W.rangeAt b 0 [int u64 x,int u64 y,.bool c]:=fun j v hj=>by
  match j,hj with
  |0,hj=>cases hj;exact h.c0
  |1,hj=>cases hj;exact h.c1
  |2,hj=>cases hj;exact h.c2
theorem R3.set (h:R3 W b x y c)(x' y':Int)(c':Bool):R3 (set3 W b x' y' c') b x' y' c':=by
  unfold R3 set3 at*;simp [World.setCell,Array.getElem?_modify,h]
theorem R3.other {b':Nat}(h:R3 W b x y c)(hne:b≠b')(x' y':Int)(c':Bool):R3 (set3 W b' x' y' c') b x y c:=by
  unfold R3 set3 at*;rw [setCell_heap3 _ _ _ _ _ hne,setCell_heap3 _ _ _ _ _ hne,setCell_heap3 _ _ _ _ _ hne];exact h
theorem point_res {fn:Func}{p:Tmp}(h:fn.results=#[.cell p 27])(tmps:Array Value)(hp:tmps.getD p undef= .pointer (some ⟨b,0,none⟩))(hc:R3 W b x y c):
    (results fn tmps).run prog W= .ok (.agg #[int u64 x,int u64 y,.bool c]) W:=
  results_mid h tmps W b 0 [int u64 x,int u64 y,.bool c] _ hp hc.range underlying27 rfl (by kernel_rfl)
end
end Go.Proofs.YtjhbckngdclleaaGreatDoor
