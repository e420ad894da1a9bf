import Derived.Test.YtjhbckngdclleaaGreatDoorMrg3
import Derived.Stop.LaidTwo
set_option linter.unusedVariables false
set_option maxRecDepth 100000
set_option maxHeartbeats 16000000
namespace Go.Proofs.YtjhbckngdclleaaGreatDoor
open Go.Proofs.Tryz Go.RowKit
open Go.Value (int)
open Go.IntKind (u64)
section
open Go.ChangeShapes Go.WideShapes Go.ChangeAt Go.Deep
theorem gE0:prog.globalNamed "loop.example/s02095/impl.errArgs" =some 0:=by kernel_rfl
theorem gE2:prog.globalNamed "loop.example/s02095/impl.errInverse" =some 1:=by kernel_rfl
theorem gE0T:(prog.globals[0]?).map (·.type)=some 76:=by kernel_rfl
theorem gE2T:(prog.globals[1]?).map (·.type)=some 76:=by kernel_rfl
theorem cellsES:prog.cellsOf 358=1:=by kernel_rfl
theorem cellsSt:prog.cellsOf 9=1:=by kernel_rfl
theorem starE: "*" ++ "errors.errorString" = "*errors.errorString" :=by decide
theorem rowE (u:TypeId)(h:prog.typeName? 3 u=some "*errors.errorString"):u=336:=
  typeName_ptr_named (nm:= "errors.errorString") (by rw [starE];kernel_rfl) (by kernel_rfl) (by decide) u (by rw [starE];exact h)
theorem pairE {W:World}{n0 n1:String}{g0 g1:Nat}{t0 t1:List UInt8}(h:laidMetH prog [(n0,.iface "*errors.errorString" (.ptr (.agg [.lit (.string t0)]))),(n1,.iface "*errors.errorString" (.ptr (.agg [.lit (.string t1)])))] W)
    (hg0:prog.globalNamed n0=some g0)(ht0:(prog.globals[g0]?).map (·.type)=some 76)(hg1:prog.globalNamed n1=some g1)(ht1:(prog.globals[g1]?).map (·.type)=some 76):
    ∃a0 a1,W.cell? ⟨g0,0,none⟩=some (sen a0)∧W.cell? ⟨g1,0,none⟩=some (sen a1)∧a0≠a1∧(∃cs t,W.heap[a0.block]? =some (.cells cs t (0,0)))∧∃cs t,W.heap[a1.block]? =some (.cells cs t (0,0)):=by
  have h1:laidMet prog [(n0,.iface "*errors.errorString" (.ptr (.agg [.lit (.string t0)]))),(n1,.iface "*errors.errorString" (.ptr (.agg [.lit (.string t1)])))] W:=h;obtain⟨a0,a1,s0,s1,c0,c1,u0,u1,hv0,hv1,-,-,-,-,-,-,hne,hb0,hb1⟩:=laid_sentinels2 h1 hg0 ht0 hg1 ht1 underlying76 rowE underlying336 underlying358 rfl rfl underlying9 cellsES cellsSt;exact⟨a0,a1,by unfold sen;simpa using World.var?_cell hg0 hv0 0,by unfold sen;simpa using World.var?_cell hg1 hv1 0,hne,⟨_,_,hb0⟩,⟨_,_,hb1⟩⟩
theorem trodVars_len {H:Type}{enc:TypeId×Value→H}{W:World}{sp:Nat→Bool}:∀{ns:List String} {gs:List (DataW H)} {q:List MemPlace},DataW.TrodVars enc prog W sp ns gs q→gs.length=ns.length
  | [],[],_,_=>rfl
  | [],_::_,_,h=>h.elim
  |_::_,[],_,h=>h.elim
  | _::_,_::_,_,h=>by
    obtain⟨g,t,cs,fuel,p,q,h1,h2,h3,h4,hs,e⟩:=h;rw [List.length_cons,List.length_cons,trodVars_len hs]
def errText:DataW Unit→ByteArray
  | .iface _ (.ptr (.agg [.lit (.string l)]))=>⟨l.toArray⟩
  |_=>⟨#[]⟩
noncomputable def low6:Nat:=(World.holding prog default ⟨#[],#[],[]⟩).heap.size
noncomputable def layE (w:World) (g i:Nat):World:=
  { w with heap:=w.heap.modify g fun
      | .cells _ t frozen=> .cells #[.iface 336 (.pointer (some ⟨low6+i,0,none⟩))] t frozen
      |o=>o}
noncomputable def laidWorld6 (os:Os):World:=
  layE (layE (layE (layE (lay (lay (lay (lay (World.holding prog os ⟨#[.cells #[.string (errText Rows.laid_loop_example_s02095_impl_errArgs)] 358,.cells #[.string (errText Rows.laid_loop_example_s02095_impl_errGroup)] 358,.cells #[.string (errText Rows.laid_loop_example_s02095_impl_errInverse)] 358,.cells #[.string (errText Rows.laid_loop_example_s02095_impl_errVerify)] 358],#[],[]⟩) 8 .u8 (litInts Rows.laid_math_bits_deBruijn32tab)) 9 .u8 (litInts Rows.laid_math_bits_deBruijn64tab)) 7 .u64 (litInts Rows.laid_internal_strconv_uint64pow10)) 6 .u32 kTab) 0 0) 2 1) 1 2) 3 3
def laid6:List (String×DataW Unit):= [("math/bits.deBruijn32tab",Rows.laid_math_bits_deBruijn32tab),("math/bits.deBruijn64tab",Rows.laid_math_bits_deBruijn64tab),("internal/strconv.uint64pow10",Rows.laid_internal_strconv_uint64pow10),("loop.example/s02095/impl.roundWords",Rows.laid_loop_example_s02095_impl_roundWords),("loop.example/s02095/impl.errArgs",Rows.laid_loop_example_s02095_impl_errArgs),("loop.example/s02095/impl.errInverse",Rows.laid_loop_example_s02095_impl_errInverse)]
theorem so_of {W:World}(h:laidMetH prog laid6 W):∃a0 a2,So W a0 a2:=by
  have h1:=laidMetH.filter (fun x=>x.1== "loop.example/s02095/impl.errArgs" ||x.1== "loop.example/s02095/impl.errInverse") h;rw [show laid6.filter (fun x=>x.1== "loop.example/s02095/impl.errArgs" ||x.1== "loop.example/s02095/impl.errInverse")= [("loop.example/s02095/impl.errArgs",Rows.laid_loop_example_s02095_impl_errArgs),("loop.example/s02095/impl.errInverse",Rows.laid_loop_example_s02095_impl_errInverse)] by kernel_rfl] at h1;obtain⟨a0,a2,c0,c2,-,-,-⟩:=pairE h1 gE0 gE0T gE2 gE2T;exact⟨a0,a2,c0,c2⟩
theorem three {α:Type}{l:List α}(h:l.length=3):∃a b c,l= [a,b,c]:=by
  match l,h with
  | [a,b,c],_=>exact ⟨a,b,c,rfl⟩
end
theorem ret_u64 {a b:Int}(h:a=b):Ending.returned (int u64 a)= .returned (int u64 b):=by rw [h]
theorem l2add_any (a b m:Nat)(w:World)(ha:a<m)(hb:b<m)(hm:m<18446744073709551616):
    Calls prog 130 #[int u64 a,int u64 b,int u64 m] w fun e w'=>e= .returned (int u64 ((a+b)%m:Nat))∧w=w':=by
  by_cases h:m-b≤a
  · have e:((a+b)%m:Nat)=a-(m-b):=by
      have:a+b=(a-(m-b))+m:=by omega
      rw [this,Nat.add_mod_right,Nat.mod_eq_of_lt (by omega)]
    rw [e];clear e;go_enter func130,ntmps130;go_wp2;go_ret;exact⟨ret_u64 (by omega),rfl⟩
  · have e:((a+b)%m:Nat)=a+b:=Nat.mod_eq_of_lt (by omega);rw [e];clear e;go_enter func130,ntmps130;go_wp2;go_ret;exact⟨ret_u64 (by omega),rfl⟩
theorem l2add_int (x y:Int)(a b m:Nat)(hx:x=a)(hy:y=b)(w:World)(ha:a<m)(hb:b<m)(hm:m<18446744073709551616):
    Calls prog 130 #[int u64 x,int u64 y,int u64 m] w fun e w'=>e= .returned (int u64 ((a+b)%m:Nat))∧w=w':=by
  subst hx hy;exact l2add_any a b m w ha hb hm
theorem shr_succ (b j:Nat):b/2^j=2*(b/2^(j+1))+b/2^j%2:=by
  have:b/2^(j+1)=b/2^j/2:=by rw [Nat.pow_succ,Nat.div_div_eq_div_mul]
  omega
theorem bit_tmod (B j:Nat):((B:Int)/2^j).tmod 2=((B/2^j%2:Nat):Int):=by
  have e:(B:Int)/2^j=((B/2^j:Nat):Int):=by simp
  rw [e,Int.tmod_eq_emod_of_nonneg (Int.natCast_nonneg _)];generalize B/2^j=z;omega
theorem bit1 (x:Int)(B j:Nat)(hx:x=B)(h:B/2^j%2=1):((x/2^j).tmod 2==1)=true:=by
  rw [hx,bit_tmod,h];rfl
theorem bit0 (x:Int)(B j:Nat)(hx:x=B)(h:B/2^j%2=0):((x/2^j).tmod 2==1)=false:=by
  rw [hx,bit_tmod,h];rfl
end Go.Proofs.YtjhbckngdclleaaGreatDoor
