import Derived.Test.YtnfbfpegagcanaaMrg16
import Derived.Test.YtnfbfpegagcanaaRows
import Derived.OpenShut
import Derived.ShutString
import Derived.OpenVars
import Derived.Deep.DeepHandedRow
set_option linter.unusedVariables false
set_option maxRecDepth 100000
set_option maxHeartbeats 16000000
namespace Go.Proofs.Ytnfbfpegagcanaa
open Go.Proofs.Try Go.RowKit
open Go.Value (int)
open Go.IntKind (u64)
def msgL (m:Msg):List Value:= [.int .i64 m.kind,.string m.user,int u64 (m.el.1:Int),int u64 (m.el.2.1:Int),.bool m.el.2.2,int u64 (m.ot.1:Int),int u64 (m.ot.2.1:Int),.bool m.ot.2.2,.string m.nonce,.string m.box,.string m.mac,.int .i64 m.code]
def wrL (m:Msg)(t:ByteArray):List Value:= [.int .i64 m.kind,.string m.user,int u64 (m.el.1:Int),int u64 (m.el.2.1:Int),.bool m.el.2.2,int u64 (m.ot.1:Int),int u64 (m.ot.2.1:Int),.bool m.ot.2.2,.string m.nonce,.string m.box,.string m.mac,.int .i64 m.code,.string t]
def rdL (s:Rd):List Value:= [.int .i64 s.m.kind,.string s.m.user,int u64 (s.m.el.1:Int),int u64 (s.m.el.2.1:Int),.bool s.m.el.2.2,int u64 (s.m.ot.1:Int),int u64 (s.m.ot.2.1:Int),.bool s.m.ot.2.2,.string s.m.nonce,.string s.m.box,.string s.m.mac,.int .i64 s.m.code,.string s.rest,.bool s.bad]
theorem cfW (args:Array Value)(w:World):(callFunc 102 args).run prog w= .ok (.enter 102 args) w:=by kernel_rfl
theorem cfP (args:Array Value)(w:World):(callFunc 101 args).run prog w= .ok (.enter 101 args) w:=by kernel_rfl
theorem cfB (args:Array Value)(w:World):(callFunc 38 args).run prog w= .ok (.enter 38 args) w:=by kernel_rfl
theorem be2 (n:Nat):strOfNums (beTo (n:Int) 2)=numB n:=by
  unfold numB
  have e:beTo (n:Int) 2= [((n/256%256:Nat):Int),((n%256:Nat):Int)]:=by
    simp only [beTo];simp
  rw [e]
theorem wrtU (s:ByteArray)(w:World)(h:s.size≤2097152):
    Cr 102 #[.string s] w (.string (sizB s)):=by
  have L:=fun w=>beI_any (s.size:Int) 2 w (by omega) (by omega) (by omega) (by omega)
  rw [be2] at L;have e1:IntKind.u64.wrap (s.size:Int)=(s.size:Int):=by rw [IntKind.wrap_u64];omega
  have hs:sizB s=numB s.size++s:=rfl;have hz:=numB_size s.size;rw [hs];generalize numB s.size=T at*;clear hs;go_enter func102,ntmps102;go_wp2_with fail;refine(L _).mono ?_;rintro e w1 ⟨rfl,b1⟩;go_wp2;go_ret;exact⟨rfl,b1⟩
theorem beK (k:Int)(h0: -9223372036854775808≤k)(h1:k<9223372036854775808):∃n,IntKind.u64.wrap k=n∧∀w,Cr 38 #[int u64 n,.int .i64 1] w (.string (byB k)):=by
  have e:IntKind.u64.wrap k=k%18446744073709551616:=by rw [IntKind.wrap_u64]
  refine⟨_,e,fun w=> ?_⟩;have L:=beI_any (k%18446744073709551616) 1 w (by omega) (by omega) (by omega) (by omega)
  have e2:strOfNums (beTo (k%18446744073709551616) 1)=byB k:=by
    unfold byB;simp only [beTo];congr 2;simp only [Int.pow_zero,Int.ediv_one];omega
  rwa [e2] at L
theorem wdI_le (s:ByteArray)(w:World)(hs:s.size≤7):
    Calls prog 60 #[.string s] w fun e w'=>e= .returned (int u64 (numL (byt s):Nat))∧w=w':=by
  obtain⟨c,hc⟩:∃c,Hid (c=numL (byt s)):=⟨_,rfl⟩;rw [←hc.out];go_enter func60,ntmps60;go_wp2
  go_loop [3,7] (fun rv iv=>∃(k r:Nat),k≤s.size∧iv= .int .i64 (k:Int)∧rv=int u64 (r:Int)∧Hid (r=numL ((byt s).take k))) (fun _ i=>8-(intOf i).toNat)
  case atStart=>exact ⟨0,0,by omega,rfl,rfl,by simp [Hid,numL]⟩
  case round=>
    obtain⟨k,r,hk,rfl,rfl,hr⟩:=hrel;by_cases hlt':k<s.size
    · have hlt:k<8:=by omega
      have hlti:(k:Int)<(s.size:Int):=by omega
      have hv:=s[k].toNat_lt;have hl:=numL_take_lt s k hlt;rw [←hr.out] at hl;have e0:IntKind.u64.wrap (s[k].toNat:Int)=(s[k].toNat:Int):=by simp only [IntKind.wrap_u64];omega
      have e1:=or_byte r s[k];rw [Nat.mod_eq_of_lt (show r*256<18446744073709551616 by omega)] at e1;have hn:Hid (r*256+s[k].toNat=numL ((byt s).take (k+1))):=by simp only [Hid];rw [numL_take s k hlt',←hr.out]
      generalize r*256+s[k].toNat=r' at*;clear hl hv;go_wp2;go_round
      case rel=>exact ⟨k+1,r',by omega,by go_num,rfl,hn⟩
      case measure=>simp [intOf];omega
    · obtain rfl:k=s.size:=by omega
      have hge:(s.size:Int)≤(s.size:Int):=by omega
      rw [List.take_of_length_le (by rw [byt_length];omega)] at hr;go_wp2;go_ret;exact⟨ret_u64 (by rw [hc.out,hr.out]),rfl⟩
theorem grownS (W:World)(b i:Nat)(x:Value):W.grownBy (W.setCell ⟨b,i,none⟩ x) (some b):=⟨rfl,rfl,rfl,by simp,fun k _ hk=>heap_setCell_other W ⟨b,i,none⟩ k x (fun e=>hk (by simp [e]))⟩
theorem grownB {W W':World}{b:Nat}(h:Bl W W'):W.grownBy W' (some b):=⟨h.os,h.tape,h.output,h.size,fun k hk _=>h.block k hk⟩
theorem grownT {W W' W'':World}{r:Option Nat}(h:W.grownBy W' r)(h':W'.grownBy W'' r):W.grownBy W'' r:=⟨h'.os.trans h.os,h'.tape.trans h.tape,h'.output.trans h.output,Nat.le_trans h.size h'.size,fun k hk hne=>(h'.block k (Nat.lt_of_lt_of_le hk h.size) hne).trans (h.block k hk hne)⟩
theorem Bk.keptBy {W W':World}{t:TypeId}{b:Nat}{cs:Array Value}{row:Option Nat}(h:Bk W t b cs)(hg:W.grownBy W' row)(hne:some b≠row):Bk W' t b cs:=(hg.block b h.lt hne).trans h
section
open M
end
section
open Go.ChangeShapes Go.WideShapes Go.ChangeAt
theorem own:ownKnob prog.godebug=none:=by kernel_rfl
theorem laidOut:laidOutB prog=true:=by kernel_rfl
theorem varsR0:varsRowed prog []=true:=by kernel_rfl
theorem u64_nat {x:Int}(h:(Lit.int .u64 x).wf=true):∃n:Nat,x=n∧n<18446744073709551616:=by
  have h2:0≤x∧x≤18446744073709551615:=by simpa [Lit.wf,IntKind.min,IntKind.max,IntKind.signed,IntKind.bits] using h
  exact⟨x.toNat,by omega,by omega⟩
end
section
open Go.ChangeShapes Go.WideShapes Go.ChangeAt Go.Deep M
theorem cellsU:prog.cellsOf 22=1:=by kernel_rfl
theorem cellsB:prog.cellsOf 4=1:=by kernel_rfl
theorem cellsLP:prog.cellsOf 24=3:=by kernel_rfl
theorem toP (x y:Int)(c:Bool)(w:World):
    Cr 10 #[.agg #[.int .u64 x,.int .u64 y,.bool c]] w (.agg #[.int .u64 x,.int .u64 y,.bool c]):=by
  go_enter func10,ntmps10;go_wp2;refine bodyPost_ret (v:= .agg #[.int .u64 x,.int .u64 y,.bool c]) (by simp [results,results10,go_sem]) rfl ⟨rfl,?_⟩;exact(((Below.refl _ w).alloc (Nat.le_refl _) _).alloc (by simp) _).alloc (by simp;omega) _
end
end Go.Proofs.Ytnfbfpegagcanaa
