import Derived.Test.YtmjniccfjffclaaGreatDoorMrg5
import Derived.Shelf.Strings.Repeat
set_option linter.unusedVariables false
set_option maxRecDepth 100000
set_option maxHeartbeats 16000000
namespace Go.Proofs.YtmjniccfjffclaaGreatDoor
open Go.Proofs.Tryz Go.RowKit
open Go.Value (int)
open Go.IntKind (u64)
section
variable {A:Act}{w:World}{dst:Option Tmp}{ty:TypeId}{ps:String}{af:Array Edge}{gd:Option (Nat×Bool)}{x y:Operand}{b i:Nat}
theorem Z.notT (hx:A.eval x= .bool true):
    Does prog (Opr dst (.unOp .not 4 x) ty ps af gd) A w fun v' w'=>v'= .bool false∧Bl w w':=dv (by generalize A.eval=ev at*;simp [execOp,hx,go_sem])
theorem Z.pkF {u:Value}{z:Operand}(hx:A.eval x= .bool false)(hz:A.eval z=u):
    Does prog (Opr dst (.pick x y z) ty ps af gd) A w fun v' w'=>v'=u∧Bl w w':=dv (by generalize A.eval=ev at*;simp [execOp,hx,hz,go_sem])
theorem Z.pkT {u:Value}{z:Operand}(hx:A.eval x= .bool true)(hz:A.eval y=u):
    Does prog (Opr dst (.pick x y z) ty ps af gd) A w fun v' w'=>v'=u∧Bl w w':=dv (by generalize A.eval=ev at*;simp [execOp,hx,hz,go_sem])
end
theorem conv2 (w:World)(a b:Int):(convert 22 9 (.slice (some ⟨w.heap.size,0,none⟩) 2 2)).run prog (w.alloc (Obj.cells #[.int .u8 a,.int .u8 b] 5))= .ok (.string (strOfNums [a,b])) (w.alloc (Obj.cells #[.int .u8 a,.int .u8 b] 5)):=
  run_convert_bytes_arg (P:=prog) (w.alloc (Obj.cells #[.int .u8 a,.int .u8 b] 5)) 22 5 underlying22 underlying5 w.heap.size 0 2 2 [a,b] rfl (fun i hi=>by
    have hh:=heap_alloc_new w (Obj.cells #[.int .u8 a,.int .u8 b] 5);generalize w.alloc (Obj.cells #[.int .u8 a,.int .u8 b] 5)=W at*;rcases(show i=0∨i=1 by omega) with rfl|rfl
    · simp [World.cell?,hh]
    · simp [World.cell?,hh]) 9 underlying9
def sizB (s:ByteArray):ByteArray:=strOfNums [((s.size/256%256:Nat):Int),((s.size%256:Nat):Int)]++s
theorem sizS_any (s:ByteArray)(w:World)(h:s.size≤65535):
    Cr 62 #[.string s] w (.string (sizB s)):=by
  have h2:((s.size/256%256:Nat):Int)=(s.size:Int)/256:=by omega
  have h3:((s.size%256:Nat):Int)=(s.size:Int)%256:=by omega
  have hcv:=conv2 w ((s.size:Int)/256) ((s.size:Int)%256);unfold sizB;rw [h2,h3];obtain⟨T,hT⟩:∃T,Hid (T=strOfNums [(s.size:Int)/256,(s.size:Int)%256]):=⟨_,rfl⟩;have hTs:T.size=2:=by rw [hT.out,strOfNums_size];rfl
  rw [←hT.out] at hcv⊢;go_enter func62,ntmps62;go_wp2;go_ret;exact⟨rfl,(Below.refl _ w).alloc (Nat.le_refl _) _⟩
def tagB (word:ByteArray)(k:Nat):ByteArray:=word++⟨#[84,79,89,80,82,70,45]⟩++(⟨#[48,49,50]⟩:ByteArray).extract k (k+1)++⟨#[45,77,54,49]⟩
theorem tagB_size (word:ByteArray)(k:Nat)(h:k<3):(tagB word k).size=word.size+12:=by
  rcases(show k=0∨k=1∨k=2 by omega) with rfl|rfl|rfl<;>(unfold tagB;rw [ByteArray.size_append,ByteArray.size_append,ByteArray.size_append];rfl)
theorem tagS_any (word:ByteArray)(k:Nat)(w:World)(hk:k<3)(h:word.size≤100):
    Cr 93 #[.string word,.int .i64 k] w (.string (tagB word k)):=by
  rcases(show k=0∨k=1∨k=2 by omega) with rfl|rfl|rfl
  · go_enter func93,ntmps93;go_wp2;go_ret;exact⟨rfl,Below.refl _ _⟩
  · go_enter func93,ntmps93;go_wp2;go_ret;exact⟨rfl,Below.refl _ _⟩
  · go_enter func93,ntmps93;go_wp2;go_ret;exact⟨rfl,Below.refl _ _⟩
theorem sizB_size (s:ByteArray):(sizB s).size=s.size+2:=by
  unfold sizB;rw [ByteArray.size_append,strOfNums_size];simp only [List.length_cons,List.length_nil];omega
def numB (i:Nat):ByteArray:=strOfNums [((i/256%256:Nat):Int),((i%256:Nat):Int)]
theorem numB_size (i:Nat):(numB i).size=2:=by unfold numB;rw [strOfNums_size];rfl
section
open Go.Shelf
def renRepeat:Go.Shelf.Ren:=⟨fun|105=>196|212=>203|99=>204|165=>205|166=>155|170=>206|169=>156|263=>207|264=>110|206=>208|240=>177|241=>209|276=>189|277=>210|n=>n,fun|9=>9|3=>3|4=>4|20=>20|0=>0|46=>97|109=>290|5=>5|72=>227|76=>228|51=>205|146=>296|53=>23|148=>185|70=>225|37=>22|75=>70|127=>268|164=>279|80=>232|n=>n,fun|n=>n⟩
theorem laysRepeat:Go.Proofs.Lays.n105 prog renRepeat:={
  mixed:=by kernel_rfl
  f99:=func204.trans (congrArg some (by kernel_rfl))
  f105:=func196.trans (congrArg some (by kernel_rfl))
  f165:=func205.trans (congrArg some (by kernel_rfl))
  f166:=func155.trans (congrArg some (by kernel_rfl))
  f169:=func156.trans (congrArg some (by kernel_rfl))
  f170:=func206.trans (congrArg some (by kernel_rfl))
  f206:=func208.trans (congrArg some (by kernel_rfl))
  f212:=func203.trans (congrArg some (by kernel_rfl))
  f240:=func177.trans (congrArg some (by kernel_rfl))
  f241:=func209.trans (congrArg some (by kernel_rfl))
  f263:=func207.trans (congrArg some (by kernel_rfl))
  f264:=func110.trans (congrArg some (by kernel_rfl))
  f276:=func189.trans (congrArg some (by kernel_rfl))
  f277:=func210.trans (congrArg some (by kernel_rfl))
  t0:=underlying0
  a0:=Tryz.isAgg0
  z0:=Tryz.sizeOf0
  v0:=Tryz.zeroValue0
  t3:=underlying3
  a3:=Tryz.isAgg3
  z3:=Tryz.sizeOf3
  v3:=Tryz.zeroValue3
  t4:=underlying4
  a4:=Tryz.isAgg4
  z4:=Tryz.sizeOf4
  v4:=Tryz.zeroValue4
  t5:=underlying5
  a5:=Tryz.isAgg5
  z5:=Tryz.sizeOf5
  v5:=Tryz.zeroValue5
  t9:=underlying9
  a9:=Tryz.isAgg9
  z9:=Tryz.sizeOf9
  v9:=Tryz.zeroValue9
  t20:=underlying20
  a20:=Tryz.isAgg20
  z20:=Tryz.sizeOf20
  v20:=Tryz.zeroValue20
  t37:=underlying22
  a37:=Tryz.isAgg22
  z37:=Tryz.sizeOf22
  v37:=Tryz.zeroValue22
  t46:=underlying97
  a46:=Tryz.isAgg97
  z46:=Tryz.sizeOf97
  v46:=Tryz.zeroValue97
  t51:=underlying205
  a51:=Tryz.isAgg205
  z51:=Tryz.sizeOf205
  v51:=Tryz.zeroValue205
  t53:=underlying23
  a53:=Tryz.isAgg23
  z53:=Tryz.sizeOf23
  v53:=Tryz.zeroValue23
  t70:=underlying225
  a70:=Tryz.isAgg225
  z70:=Tryz.sizeOf225
  v70:=Tryz.zeroValue225
  t72:=underlying227
  a72:=Tryz.isAgg227
  z72:=Tryz.sizeOf227
  v72:=Tryz.zeroValue227
  t75:=underlying70
  a75:=Tryz.isAgg70
  z75:=Tryz.sizeOf70
  v75:=Tryz.zeroValue70
  t76:=underlying228
  a76:=Tryz.isAgg228
  z76:=Tryz.sizeOf228
  v76:=Tryz.zeroValue228
  t109:=underlying290
  a109:=Tryz.isAgg290
  z109:=Tryz.sizeOf290
  v109:=Tryz.zeroValue290
  t127:=underlying268
  a127:=Tryz.isAgg268
  z127:=Tryz.sizeOf268
  v127:=Tryz.zeroValue268
  t146:=underlying296
  a146:=Tryz.isAgg296
  z146:=Tryz.sizeOf296
  v146:=Tryz.zeroValue296
  t148:=underlying185
  a148:=Tryz.isAgg185
  z148:=Tryz.sizeOf185
  v148:=Tryz.zeroValue185
  t164:=underlying279
  a164:=Tryz.isAgg279
  z164:=Tryz.sizeOf279
  v164:=Tryz.zeroValue279}
theorem extraRepeat:Builder.Extra prog renRepeat:={
  sizeBuilder:=by kernel_rfl
  liesBuilder:=by kernel_rfl
  t5:=laysRepeat.t5
  a5:=laysRepeat.a5
  z5:=laysRepeat.z5
  v5:=laysRepeat.v5
  infoByte:=by kernel_rfl
  cellsByte:=by kernel_rfl
  sizeByte:=by kernel_rfl
  neB5:=by decide}
theorem eq64:(⟨(Lib.repeatL (⟨#[0]⟩:ByteArray).data.toList 64).toArray⟩:ByteArray)=strOfNums (List.replicate 64 0):=by kernel_rfl
theorem rep64 (w:World):Cr 196 #[.string ⟨#[0]⟩,.int .i64 64] w (.string (strOfNums (List.replicate 64 0))):=
  (Any.strings_Repeat laysRepeat extraRepeat ⟨#[0]⟩ 64 w (by decide) (by decide)).mono fun e w' ⟨h,h'⟩=>⟨h.trans (by rw [eq64]),h'⟩
theorem eq32:(⟨(Lib.repeatL (⟨#[0]⟩:ByteArray).data.toList 32).toArray⟩:ByteArray)=strOfNums (List.replicate 32 0):=by kernel_rfl
theorem rep32 (w:World):Cr 196 #[.string ⟨#[0]⟩,.int .i64 32] w (.string (strOfNums (List.replicate 32 0))):=
  (Any.strings_Repeat laysRepeat extraRepeat ⟨#[0]⟩ 32 w (by decide) (by decide)).mono fun e w' ⟨h,h'⟩=>⟨h.trans (by rw [eq32]),h'⟩
end
theorem beTo2 (n:Nat)(h:n≤65535):strOfNums (beTo (n:Int) 2)=numB n:=by
  unfold numB
  have e:beTo (n:Int) 2= [((n/256%256:Nat):Int),((n%256:Nat):Int)]:=by
    simp only [beTo];simp
  rw [e]
theorem wrtZ (s:ByteArray)(w:World)(h:s.size≤65535):
    Cr 229 #[.string s] w (.string (sizB s)):=by
  have L:=fun w=>beI_any (s.size:Int) 2 w (by omega) (by omega) (by omega) (by omega)
  rw [beTo2 _ h] at L;have e1:IntKind.u64.wrap (s.size:Int)=(s.size:Int):=by rw [IntKind.wrap_u64];omega
  have hs:sizB s=numB s.size++s:=rfl;have hz:=numB_size s.size;rw [hs];generalize numB s.size=T at*;clear hs;go_enter func229,ntmps229;go_wp2_with fail;refine(L _).mono ?_;rintro e w1 ⟨rfl,b1⟩;go_wp2;go_ret;exact⟨rfl,b1⟩
theorem wrtP (s:ByteArray)(w:World):
    Cr 234 #[.string s] w (.string s):=by
  go_enter func234,ntmps234;go_wp2;go_ret;exact⟨rfl,Below.refl _ _⟩
def Writ (v:Value)(s:ByteArray):Prop:=∃(T:TypeId) (x:Value) (F:FuncId),v= .iface T x∧(∀w,(method 432 T x "loop.example/s02095/impl.written").run prog w= .ok (F,x) w)∧
  (∀(args:Array Value) (w:World),(callFunc F args).run prog w= .ok (.enter F args) w)∧Cc F #[x] (.string s)
theorem mthZ (s:ByteArray)(w:World):(method 432 211 (.string s) "loop.example/s02095/impl.written").run prog w= .ok (229,.string s) w:=by kernel_rfl
theorem mthP (s:ByteArray)(w:World):(method 432 196 (.string s) "loop.example/s02095/impl.written").run prog w= .ok (234,.string s) w:=by kernel_rfl
theorem ceZ (args:Array Value)(w:World):(callFunc 229 args).run prog w= .ok (.enter 229 args) w:=by kernel_rfl
theorem ceP (args:Array Value)(w:World):(callFunc 234 args).run prog w= .ok (.enter 234 args) w:=by kernel_rfl
theorem writZ (s:ByteArray)(h:s.size≤65535):Writ (.iface 211 (.string s)) (sizB s):=⟨_,_,_,rfl,mthZ s,ceZ,fun w=>wrtZ s w h⟩
theorem writP (s:ByteArray):Writ (.iface 196 (.string s)) s:=⟨_,_,_,rfl,mthP s,ceP,fun w=>wrtP s w⟩
end Go.Proofs.YtmjniccfjffclaaGreatDoor
