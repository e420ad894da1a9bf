import Derived.Test.YtijmldjijnpnoaaDoorMrg14
set_option linter.unusedVariables false
set_option maxRecDepth 100000
set_option maxHeartbeats 16000000
namespace Go.Proofs.YtijmldjijnpnoaaDoor
open Go.Proofs.Tryd Go.RowKit
open Go.Value (int)
open Go.IntKind (u64)
section
open M
theorem redP_of (n c:Int)(w:World)(h0:0≤n)(hc:n.tmod 2305843009213693951=c):
    Cr 64 #[int u64 n,.agg #[]] w (.agg #[int u64 c]):=by
  have hm:=methP;have hf:=foldP;have V:=valP;go_enter func64,ntmps64;go_wp2
  go_region_held3 (fun _=>True) (trivial) ((go_simp;go_at_call 122;refine(V _).mono ?_;rintro e w' ⟨rfl,rfl⟩))
  go_wp2;refine bodyPost_ret (v:= .agg #[int u64 c]) (by simp [results,results64,go_sem]) rfl ⟨rfl,?_⟩;exact((((Below.refl _ w).alloc (Nat.le_refl _) _).alloc (by simp) _).alloc (by simp;omega) _).drew
theorem fv_ge (x:Fp):0≤fv x:=by unfold fv;omega
theorem fv_lt (x:Fp):fv x<2305843009213693951:=by have:=val_lt x;unfold fv;omega
theorem rdV (x:Fp)(w:World):
    Cr 64 #[int u64 (fv x),.agg #[]] w (.agg #[int u64 (fv x)]):=
  redP_of _ _ w (fv_ge x) (Int.tmod_eq_of_lt (fv_ge x) (fv_lt x))
theorem rd3 (w:World):Cr 64 #[int u64 3,.agg #[]] w (.agg #[int u64 (fv 3)]):=rdV 3 w
theorem rd111 (w:World):Cr 64 #[int u64 111,.agg #[]] w (.agg #[int u64 (fv 111)]):=rdV 111 w
theorem tmV (a b:Fp)(w:World):
    Cr 57 #[.agg #[int u64 (fv a)],.agg #[int u64 (fv b)]] w (.agg #[int u64 (fv (a*b))]):=by
  have:=timP_any a.val b.val w (val_lt a) (val_lt b);rw [←Fin.val_mul] at this;exact this
theorem fv_sub (a b:Fp):fv (a-b)=if fv a<fv b then fv a-fv b+2305843009213693951 else fv a-fv b:=by
  have ha:=val_lt a;have hb:=val_lt b;unfold fv;rw [Fin.val_sub];generalize a.val=A at*;generalize b.val=B at*;split<;>omega
theorem mnV (a b:Fp)(w:World):
    Cr 80 #[.agg #[int u64 (fv a)],.agg #[int u64 (fv b)]] w (.agg #[int u64 (fv (a-b))]):=
  mnP_any (fv a) (fv b) (fv (a-b)) w (fv_ge a) (fv_lt a) (fv_ge b) (fv_lt b) (fv_sub a b)
theorem ngV (a:Fp)(w:World):
    Cr 66 #[.agg #[int u64 (fv a)]] w (.agg #[int u64 (fv (0-a))]):=
  ngP_of (fv a) (fv (0-a)) w (fun w=>mnV 0 a w)
theorem plV (a b:Fp)(w:World):
    Cr 67 #[.agg #[int u64 (fv a)],.agg #[int u64 (fv b)]] w (.agg #[int u64 (fv (a+b))]):=by
  have:=plP_of (fv a) (fv b) (fv (0-b)) (fv (a-(0-b))) w (ngV b) (mnV a (0-b));rwa [show a-(0-b)=a+b by grobner] at this
section
variable {ev:Operand→Value}{w:World}{dst:Option Tmp}{ty:TypeId}{ps:String}{af:Array Edge}{gd:Option (Nat×Bool)}{x y:Operand}{b i:Nat}
theorem exec_call1 {F:FuncId}{at_:Array TypeId}{u:Value}(hF:ev (.func F)= .func (.func F) #[] #[])(hcf:∀(args:Array Value) (w:World),(callFunc F args).run prog w= .ok (.enter F args) w)(hx:ev x=u):
    (execOp ev (Opr dst (.call {callee:= .value (.func F),args:=#[x],argTypes:=at_}) ty ps af gd)).run prog w= .ok (.enter F #[u]) w:=by
  simp [execOp,hx,hF,hcf,go_sem]
theorem exec_call2 {F:FuncId}{at_:Array TypeId}{u v:Value}(hF:ev (.func F)= .func (.func F) #[] #[])(hcf:∀(args:Array Value) (w:World),(callFunc F args).run prog w= .ok (.enter F args) w)(hx:ev x=u)(hy:ev y=v):
    (execOp ev (Opr dst (.call {callee:= .value (.func F),args:=#[x,y],argTypes:=at_}) ty ps af gd)).run prog w= .ok (.enter F #[u,v]) w:=by
  simp [execOp,hx,hy,hF,hcf,go_sem]
theorem exec_loadN {z:Int}(hx:ev x= .pointer (some ⟨b,i,none⟩))(hc:w.cell? ⟨b,i,none⟩=some (int u64 z)):
    (execOp ev (Opr dst (.load 81 x) ty ps af gd)).run prog w= .ok (.value (.agg #[int u64 z])) w:=by
  simp [execOp,hx,hc,go_sem]
theorem exec_load0 (hx:ev x= .pointer (some ⟨b,i,none⟩)):
    (execOp ev (Opr dst (.load 77 x) ty ps af gd)).run prog w= .ok (.value (.agg #[])) w:=by
  simp [execOp,hx,go_sem]
theorem exec_store {z z0:Int}(hx:ev x= .pointer (some ⟨b,0,none⟩))(hy:ev y= .agg #[int u64 z])(hr:R1 w b z0):
    (execOp ev (Opr dst (.store 81 x y) ty ps af gd)).run prog w= .ok .skip (w.setCell ⟨b,0,none⟩ (int u64 z)):=by
  have h1:=hr.cell;have h2:=hr.frz;simp [execOp,hx,hy,h1,h2,go_sem]
theorem cf_times (args:Array Value)(w:World):(callFunc 57 args).run prog w= .ok (.enter 57 args) w:=by kernel_rfl
theorem cf_minus (args:Array Value)(w:World):(callFunc 80 args).run prog w= .ok (.enter 80 args) w:=by kernel_rfl
theorem cf_plus (args:Array Value)(w:World):(callFunc 67 args).run prog w= .ok (.enter 67 args) w:=by kernel_rfl
theorem cf_reduced (args:Array Value)(w:World):(callFunc 64 args).run prog w= .ok (.enter 64 args) w:=by kernel_rfl
end
section
variable {A:Act}{w W0:World}{dst:Option Tmp}{ty:TypeId}{ps:String}{af:Array Edge}{gd:Option (Nat×Bool)}{x y x3 x4:Operand}{b i:Nat}
theorem do_call1 {F:FuncId}{at_:Array TypeId}{u r:Value}(hcf:∀(args:Array Value) (w:World),(callFunc F args).run prog w= .ok (.enter F args) w)(hx:A.eval x=u)
    (hc:Cr F #[u] w r):
    Does prog (Opr dst (.call {callee:= .value (.func F),args:=#[x],argTypes:=at_}) ty ps af gd) A w fun v' w'=>v'=r∧Bl w w':=
  does_call (exec_call1 rfl hcf hx) (hc.mono fun _ _ ⟨h,h'⟩=>⟨r,h,rfl,h'⟩)
theorem do_call2 {F:FuncId}{at_:Array TypeId}{u v r:Value}(hcf:∀(args:Array Value) (w:World),(callFunc F args).run prog w= .ok (.enter F args) w)(hx:A.eval x=u)(hy:A.eval y=v)
    (hc:Cr F #[u,v] w r):
    Does prog (Opr dst (.call {callee:= .value (.func F),args:=#[x,y],argTypes:=at_}) ty ps af gd) A w fun v' w'=>v'=r∧Bl w w':=
  does_call (exec_call2 rfl hcf hx hy) (hc.mono fun _ _ ⟨h,h'⟩=>⟨r,h,rfl,h'⟩)
theorem do_loadN {z:Int}(hx:A.eval x= .pointer (some ⟨b,0,none⟩))(hr:R1 W0 b z)(hB:Bl W0 w):
    Does prog (Opr dst (.load 81 x) ty ps af gd) A w fun v' w'=>v'= .agg #[int u64 z]∧Bl w w':=
  does_value (exec_loadN hx (hr.keep hB).cell) ⟨rfl,Below.refl _ _⟩
theorem do_load0 (hx:A.eval x= .pointer (some ⟨b,i,none⟩)):
    Does prog (Opr dst (.load 77 x) ty ps af gd) A w fun v' w'=>v'= .agg #[]∧Bl w w':=
  does_value (exec_load0 hx) ⟨rfl,Below.refl _ _⟩
end
end
end Go.Proofs.YtijmldjijnpnoaaDoor
