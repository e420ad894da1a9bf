import Derived.Test.YtmjniccfjffclaaGreatDoorMrg40
set_option linter.unusedVariables false
set_option maxRecDepth 100000
set_option maxHeartbeats 16000000
namespace Go.Proofs.YtmjniccfjffclaaGreatDoor
open Go.Proofs.Tryz Go.RowKit
open Go.Value (int)
open Go.IntKind (u64)
section
open M
theorem pt_ct {W:World}{b:Nat}{x y:Int}{c:Bool}{fn:Func}{p u:Tmp}(h:fn.results=#[.cell p 34,.tmp u])(tmps:Array Value)
    (hp:tmps.getD p undef= .pointer (some ⟨b,0,none⟩))(hc:R3 W b x y c):
    (results fn tmps).run prog W= .ok (.tuple #[.agg #[int u64 x,int u64 y,.bool c],tmps.getD u undef]) W:=by
  have hp':tmps[p]?.getD undef= .pointer (some ⟨b,0,none⟩):=by simpa using hp
  simp [results,h,hp',asAddr,run_loadVar_mid W b 0 34 [int u64 x,int u64 y,.bool c] _ hc.range underlying34 rfl (by kernel_rfl)]
theorem R3.keep {W W':World}{b:Nat}{x y:Int}{c:Bool}(h:R3 W b x y c)(hb:Bl W W'):R3 W' b x y c:=h.below hb h.lt
theorem kpB {n:Nat}{w0 w1 w2:World}(h:Below n w0 w1)(hn:n≤w1.heap.size)(b:Bl w1 w2):Below n w0 w2:=h.trans (b.mono hn)
end
theorem wdS_any (s:ByteArray)(w:World)(hs:s.size=8):
    Calls prog 104 #[.string s] w fun e w'=>e= .returned (int u64 (numL (byt s):Nat))∧w=w':=by
  obtain⟨c,hc⟩:∃c,Hid (c=numL (byt s)):=⟨_,rfl⟩;rw [←hc.out];go_enter func104,ntmps104;go_wp2
  go_loop [3,4] (fun rv iv=>∃(k r:Nat),k≤8∧iv= .int .i64 (k:Int)∧rv=int u64 (r:Int)∧Hid (r=numL ((byt s).take k))) (fun _ i=>8-(intOf i).toNat)
  case atStart=>exact ⟨0,0,by omega,rfl,rfl,by simp [Hid,numL]⟩
  case round=>
    obtain⟨k,r,hk,rfl,rfl,hr⟩:=hrel;by_cases hlt:k<8
    · have hlt':k<s.size:=by omega
      have hlti:(k:Int)<(s.size:Int):=by omega
      have hv:=s[k].toNat_lt;have hl:=numL_take_lt s k hlt;rw [←hr.out] at hl;have e0:IntKind.u64.wrap (s[k].toNat:Int)=(s[k].toNat:Int):=by simp only [IntKind.wrap_u64];omega
      have e1:IntKind.u64.wrap (IntKind.u64.wrap ((r:Int)*256)+(s[k].toNat:Int))=((r*256+s[k].toNat:Nat):Int):=by simp only [IntKind.wrap_u64];omega
      have hn:Hid (r*256+s[k].toNat=numL ((byt s).take (k+1))):=by simp only [Hid];rw [numL_take s k hlt',←hr.out]
      generalize r*256+s[k].toNat=r' at*;clear hl hv;go_wp2;go_round
      case rel=>exact ⟨k+1,r',by omega,by go_num,rfl,hn⟩
      case measure=>simp [intOf];omega
    · obtain rfl:k=8:=by omega
      rw [List.take_of_length_le (by rw [byt_length];omega)] at hr;go_wp2;go_ret;exact⟨ret_u64 (by rw [hc.out,hr.out]),rfl⟩
end Go.Proofs.YtmjniccfjffclaaGreatDoor
