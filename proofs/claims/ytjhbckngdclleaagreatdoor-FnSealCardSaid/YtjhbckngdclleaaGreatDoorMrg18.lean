import Derived.Test.YtjhbckngdclleaaGreatDoorMrg17
import Derived.Shelf.Strings.Repeat
set_option linter.unusedVariables false
set_option maxRecDepth 100000
set_option maxHeartbeats 16000000
namespace Go.Proofs.YtjhbckngdclleaaGreatDoor
open Go.Proofs.Tryz Go.RowKit
open Go.Value (int)
open Go.IntKind (u64)
section
open M
abbrev Tri:=Nat×Nat×Bool
noncomputable def asT (t:Tri):Pt:=asPt t.1 t.2.1 t.2.2
noncomputable def onT (t:Tri):Bool:=(toPt t.1 t.2.1 t.2.2).isSome
def triW (t:Tri):Value:= .agg #[int u64 (t.1:Int),int u64 (t.2.1:Int),.bool t.2.2]
theorem triW_of {t:Tri}(h:onT t=true):triW t=ptW (asT t):=by
  unfold onT at h;obtain⟨p,hp⟩:=Option.isSome_iff_exists.1 h;unfold triW asT;rw [asPt_some hp];exact toPt_W hp
end
theorem lkb (a:ByteArray)(k:Nat)(h:k<a.size):lk (byt a) k=(a[k].toNat:Int):=by
  unfold lk byt;rw [List.getD_eq_getElem?_getD,List.getElem?_map,List.getElem?_eq_getElem (by simpa using h)];rfl
theorem xorB_set (a b:ByteArray)(k:Nat)(ha:k<a.size)(hb:k<b.size):
    ((xorB (byt a) (byt b)).take k++(byt a).drop k).set k ((a[k].toNat^^^b[k].toNat:Nat):Int)=(xorB (byt a) (byt b)).take (k+1)++(byt a).drop (k+1):=by
  have hl:((xorB (byt a) (byt b)).take k).length=k:=by rw [List.length_take,xorB_length,byt_length,byt_length];omega
  rw [List.drop_eq_getElem_cons (by rw [byt_length];exact ha),set_at _ _ _ _ _ hl,xorB_take a b k ha hb,←cons_snoc]
theorem xorT_any (a b:ByteArray)(w:World)(ha:a.size≤1000)(hab:a.size≤b.size):
    Cr 240 #[.string a,.string b] w (.string (strOfNums (xorB (byt a) (byt b)))):=by
  obtain⟨cap0,w1,hcv,hrow0,hbl0⟩:∃cap0 w1,(convert 9 35 (.string a)).run prog w= .ok (.slice (some ⟨w.heap.size,0,none⟩) a.size cap0) w1∧
      Row w1 w.heap.size w.heap.size a.size cap0 ((byt a).map (Value.int .u8))∧Bl w w1:=
    ⟨_,_,Lib.run_convert_string_bytes w 9 35 5 a underlying9 underlying35 underlying5,row_bytes w _ a w.heap.size (Nat.le_refl _) (by unfold maxLen;omega)⟩
  have hxl:(xorB (byt a) (byt b)).length=a.size:=by rw [xorB_length,byt_length,byt_length];omega
  have hset:=xorB_set a b;obtain⟨X,hX⟩:∃X,X=xorB (byt a) (byt b):=⟨_,rfl⟩;rw [←hX] at hxl hset⊢;go_enter func240,ntmps240;go_wp2
  go_loopw [6,11] (fun _ i wr=>∃k:Nat,k≤a.size∧i= .int .i64 (k:Int)∧Row wr w.heap.size w.heap.size a.size cap0 ((X.take k++(byt a).drop k).map (Value.int .u8))∧Bl w wr) (fun _ i _=>a.size-(intOf i).toNat)
  case atStart=>exact ⟨0,by omega,rfl,by simpa using hrow0,hbl0⟩
  case round=>
    clear hrow0 hbl0 hcv hX;obtain⟨k,hk,rfl,hrow,hbl⟩:=hrel;have hbk:=hrow.le;by_cases hlt:k<a.size
    · have hlt2:k<b.size:=by omega
      have hc:=hrow.cell k hlt
      have hlk:lk (X.take k++(byt a).drop k) k=(a[k].toNat:Int):=by
        rw [List.drop_eq_getElem_cons (by rw [byt_length];exact hlt),lk_mid _ _ _ _ (by rw [List.length_take];omega)];have:=lkb a k hlt;unfold lk at this;rw [List.getD_eq_getElem?_getD,List.getElem?_eq_getElem (by rw [byt_length];exact hlt)] at this;exact this
      rw [hlk] at hc;have hfz:=(hrow.room k (by omega)).2;have hst:=hset k hlt hlt2;have ex:=u8_xor_nat a[k].toNat b[k].toNat a[k].toNat_lt b[k].toNat_lt;have q0:(0:Int)≤(k:Int):=by omega
      have q1:(k:Int)<(a.size:Int):=by omega
      have q2:(k:Int)<(b.size:Int):=by omega
      generalize a[k].toNat=za at*;generalize hzz:za^^^b[k].toNat=z at*;clear hlk hset hzz;go_wp2
      go_region
      have R1:=(hrow.set k hlt (.int .u8 (z:Int))).drew;rw [←List.map_set,hst] at R1;have R2:=(hbl.setCell (p:=⟨w.heap.size,k,none⟩) (Nat.le_refl _) (.int .u8 (z:Int))).drew;clear hst ex hc hrow hbl;go_wp2;go_roundw
      case rel=>
        first
          |exact ⟨k+1,by omega,by go_num,R1,R2⟩
          |((repeat apply Exists.intro);exact⟨⟨k+1,by omega,by go_num,R1,R2⟩,rfl⟩)
      case measure=>simp [intOf];omega
    · obtain rfl:k=a.size:=by omega
      rw [List.take_of_length_le (by omega),List.drop_of_length_le (by rw [byt_length];omega),List.append_nil] at hrow;have hcv:=run_convert_bytes_arg (P:=prog) wr 35 5 underlying35 underlying5 w.heap.size 0 a.size cap0 X hxl (fun i h=>by rw [Nat.zero_add];exact hrow.cell i h) 9 underlying9;go_wp2;go_ret;exact⟨rfl,hbl⟩
section
open Go.Shelf
def renRepeat:Go.Shelf.Ren:=⟨fun|105=>238|212=>246|99=>247|165=>248|166=>155|170=>249|169=>156|263=>252|264=>164|206=>253|240=>187|241=>254|276=>225|277=>255|n=>n,fun|9=>9|3=>3|4=>4|20=>20|0=>0|46=>108|109=>326|5=>5|72=>239|76=>240|51=>177|146=>332|53=>22|148=>254|70=>237|37=>35|75=>76|127=>279|164=>299|80=>185|n=>n,fun|n=>n⟩
theorem laysRepeat:Go.Proofs.Lays.n105 prog renRepeat:={
  mixed:=by kernel_rfl
  f99:=func247.trans (congrArg some (by kernel_rfl))
  f105:=func238.trans (congrArg some (by kernel_rfl))
  f165:=func248.trans (congrArg some (by kernel_rfl))
  f166:=func155.trans (congrArg some (by kernel_rfl))
  f169:=func156.trans (congrArg some (by kernel_rfl))
  f170:=func249.trans (congrArg some (by kernel_rfl))
  f206:=func253.trans (congrArg some (by kernel_rfl))
  f212:=func246.trans (congrArg some (by kernel_rfl))
  f240:=func187.trans (congrArg some (by kernel_rfl))
  f241:=func254.trans (congrArg some (by kernel_rfl))
  f263:=func252.trans (congrArg some (by kernel_rfl))
  f264:=func164.trans (congrArg some (by kernel_rfl))
  f276:=func225.trans (congrArg some (by kernel_rfl))
  f277:=func255.trans (congrArg some (by kernel_rfl))
  t0:=underlying0
  a0:=Tryz.isAgg0
  z0:=Tryz.sizeOf0
  v0:=Tryz.zeroValue0
  t3:=underlying3
  a3:=Tryz.isAgg3
  z3:=Tryz.sizeOf3
  v3:=Tryz.zeroValue3
  t4:=underlying4
  a4:=Tryz.isAgg4
  z4:=Tryz.sizeOf4
  v4:=Tryz.zeroValue4
  t5:=underlying5
  a5:=Tryz.isAgg5
  z5:=Tryz.sizeOf5
  v5:=Tryz.zeroValue5
  t9:=underlying9
  a9:=Tryz.isAgg9
  z9:=Tryz.sizeOf9
  v9:=Tryz.zeroValue9
  t20:=underlying20
  a20:=Tryz.isAgg20
  z20:=Tryz.sizeOf20
  v20:=Tryz.zeroValue20
  t37:=underlying35
  a37:=Tryz.isAgg35
  z37:=Tryz.sizeOf35
  v37:=Tryz.zeroValue35
  t46:=underlying108
  a46:=Tryz.isAgg108
  z46:=Tryz.sizeOf108
  v46:=Tryz.zeroValue108
  t51:=underlying177
  a51:=Tryz.isAgg177
  z51:=Tryz.sizeOf177
  v51:=Tryz.zeroValue177
  t53:=underlying22
  a53:=Tryz.isAgg22
  z53:=Tryz.sizeOf22
  v53:=Tryz.zeroValue22
  t70:=underlying237
  a70:=Tryz.isAgg237
  z70:=Tryz.sizeOf237
  v70:=Tryz.zeroValue237
  t72:=underlying239
  a72:=Tryz.isAgg239
  z72:=Tryz.sizeOf239
  v72:=Tryz.zeroValue239
  t75:=underlying76
  a75:=Tryz.isAgg76
  z75:=Tryz.sizeOf76
  v75:=Tryz.zeroValue76
  t76:=underlying240
  a76:=Tryz.isAgg240
  z76:=Tryz.sizeOf240
  v76:=Tryz.zeroValue240
  t109:=underlying326
  a109:=Tryz.isAgg326
  z109:=Tryz.sizeOf326
  v109:=Tryz.zeroValue326
  t127:=underlying279
  a127:=Tryz.isAgg279
  z127:=Tryz.sizeOf279
  v127:=Tryz.zeroValue279
  t146:=underlying332
  a146:=Tryz.isAgg332
  z146:=Tryz.sizeOf332
  v146:=Tryz.zeroValue332
  t148:=underlying254
  a148:=Tryz.isAgg254
  z148:=Tryz.sizeOf254
  v148:=Tryz.zeroValue254
  t164:=underlying299
  a164:=Tryz.isAgg299
  z164:=Tryz.sizeOf299
  v164:=Tryz.zeroValue299}
theorem extraRepeat:Builder.Extra prog renRepeat:={
  sizeBuilder:=by kernel_rfl
  liesBuilder:=by kernel_rfl
  t5:=laysRepeat.t5
  a5:=laysRepeat.a5
  z5:=laysRepeat.z5
  v5:=laysRepeat.v5
  infoByte:=by kernel_rfl
  cellsByte:=by kernel_rfl
  sizeByte:=by kernel_rfl
  neB5:=by decide}
theorem eq64:(⟨(Lib.repeatL (⟨#[0]⟩:ByteArray).data.toList 64).toArray⟩:ByteArray)=strOfNums (List.replicate 64 0):=by kernel_rfl
theorem rep64 (w:World):Cr 238 #[.string ⟨#[0]⟩,.int .i64 64] w (.string (strOfNums (List.replicate 64 0))):=
  (Any.strings_Repeat laysRepeat extraRepeat ⟨#[0]⟩ 64 w (by decide) (by decide)).mono fun e w' ⟨h,h'⟩=>⟨h.trans (by rw [eq64]),h'⟩
theorem eq32:(⟨(Lib.repeatL (⟨#[0]⟩:ByteArray).data.toList 32).toArray⟩:ByteArray)=strOfNums (List.replicate 32 0):=by kernel_rfl
theorem rep32 (w:World):Cr 238 #[.string ⟨#[0]⟩,.int .i64 32] w (.string (strOfNums (List.replicate 32 0))):=
  (Any.strings_Repeat laysRepeat extraRepeat ⟨#[0]⟩ 32 w (by decide) (by decide)).mono fun e w' ⟨h,h'⟩=>⟨h.trans (by rw [eq32]),h'⟩
end
end Go.Proofs.YtjhbckngdclleaaGreatDoor
