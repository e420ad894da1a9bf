import Derived.Test.YtjmhmajfkdglnabGreatDoorMrg16
set_option linter.unusedVariables false
set_option maxRecDepth 100000
set_option maxHeartbeats 16000000
namespace Go.Proofs.YtjmhmajfkdglnabGreatDoor
open Go.Proofs.Tryz Go.RowKit
open Go.Value (int)
open Go.IntKind (u64)
theorem h2sS_yes (msg tag:ByteArray)(w:World)(h:okT msg tag):
    Cr 95 #[.string msg,.string tag] w (.tuple #[int u64 (hNum msg tag 2305843010818082053 1 0:Nat),.bool true]):=by
  have X:∀w,Calls prog 96 #[.string msg,.string tag,int u64 2305843010818082053,.int .i64 1] w fun e w'=>∃g cap,e= .returned (.tuple #[.slice (some ⟨g,0,none⟩) 1 cap,.bool true])∧Row w' w.heap.size g 1 cap ((h2f (byt msg) (byt tag) 2305843010818082053 1).map (Value.int .u64))∧Bl w w':=
    fun w=>h2fS_yes msg tag 2305843010818082053 1 w (by decide) ((okT_H (by decide) (by decide) (by decide)).1 h)
  have hz:=h2f_at msg tag 2305843010818082053 1 0 (by omega);generalize ((hNum msg tag 2305843010818082053 1 0:Nat):Int)=z at*;go_enter func95,ntmps95;go_wp2_with fail;refine(X _).mono ?_;rintro e W1 ⟨g,cap,rfl,hr,hb⟩;have hc:=hr.cell 0 (by omega);rw [hz] at hc;clear X hz;go_wp2;go_ret2;exact⟨rfl,hb⟩
theorem h2sS_no (msg tag:ByteArray)(w:World)(h: ¬ okT msg tag):
    Cr 95 #[.string msg,.string tag] w (.tuple #[int u64 0,.bool false]):=by
  have X:∀w,Calls prog 96 #[.string msg,.string tag,int u64 2305843010818082053,.int .i64 1] w fun e w'=>∃g cap,e= .returned (.tuple #[.slice (some ⟨g,0,none⟩) 0 cap,.bool false])∧Row w' w.heap.size g 0 cap []∧Bl w w':=
    fun w=>h2fS_no msg tag 2305843010818082053 1 w (fun hh=>h ((okT_H (by decide) (by decide) (by decide)).2 hh))
  go_enter func95,ntmps95;go_wp2_with fail;refine(X _).mono ?_;rintro e W1 ⟨g,cap,rfl,hr,hb⟩;clear X;go_wp2;go_ret2;exact⟨rfl,hb⟩
def scaT (k:Nat):ByteArray:=tagB ⟨#[72,97,115,104,84,111,83,99,97,108,97,114,45]⟩ k
def scaN (s:ByteArray)(k:Nat):Nat:=hNum s (scaT k) 2305843010818082053 1 0
theorem scaS_any (s:ByteArray)(k:Nat)(w:World)(hk:k<3)(hs:s.size≤65535):
    Cr 55 #[.string s,.int .i64 k] w (int u64 (scaN s k)):=by
  have T:=tagS_any ⟨#[72,97,115,104,84,111,83,99,97,108,97,114,45]⟩ k w hk (by decide);have hz:=tagB_size ⟨#[72,97,115,104,84,111,83,99,97,108,97,114,45]⟩ k hk;have hz2:(ByteArray.mk #[72,97,115,104,84,111,83,99,97,108,97,114,45]).size=13:=rfl;have H:=fun w'=>h2sS_yes s (scaT k) w' ⟨by unfold scaT;omega,by unfold scaT;omega,hs⟩
  change Calls _ _ _ _ (fun e w'=>e= .returned (.string (scaT k))∧_) at T;unfold scaN;generalize scaT k=t at*;go_enter func55,ntmps55;go_wp2_with fail;refine T.mono ?_;rintro e w1 ⟨rfl,b1⟩;go_wp2_with fail;refine(H w1).mono ?_;rintro e w2 ⟨rfl,b2⟩;go_wp2;go_ret;exact⟨rfl,b1.tr b2⟩
section
open M
def ptB (p:Pt):ByteArray:=strOfNums (be8 (putN p:Nat))
theorem ptB_size (p:Pt):(ptB p).size=8:=by unfold ptB;rw [strOfNums_size];rfl
def seedT (k:Nat):ByteArray:=tagB ⟨#[83,101,101,100,45]⟩ k
theorem seedT_size (k:Nat)(h:k<3):(seedT k).size=17:=tagB_size _ k h
def seedM (k:Nat)(b:Pt):ByteArray:=sizB (ptB b)++sizB (seedT k)
def seedB (k:Nat)(b:Pt):ByteArray:=strOfNums (shaF (byt (seedM k b)))
def compB:ByteArray:=⟨#[67,111,109,112,111,115,105,116,101]⟩
def challB:ByteArray:=⟨#[67,104,97,108,108,101,110,103,101]⟩
def wgtT (k:Nat)(b:Pt)(i:Nat)(c d:Pt):ByteArray:=sizB (seedB k b)++numB i++sizB (ptB c)++sizB (ptB d)++compB
def wgt (k:Nat)(b:Pt)(i:Nat)(c d:Pt):Nat:=scaN (wgtT k b i c d) k
theorem scaN_lt (s:ByteArray)(k:Nat):scaN s k<2305843010818082053:=Nat.mod_lt _ (by decide)
def wgts (k:Nat)(b:Pt)(cs ds:List Pt)(n:Nat):List Int:=(List.range n).map fun i=>((wgt k b i (cs.getD i none) (ds.getD i none):Nat):Int)
theorem wgts_succ (k:Nat)(b:Pt)(cs ds:List Pt)(n:Nat):wgts k b cs ds (n+1)=wgts k b cs ds n++ [((wgt k b n (cs.getD n none) (ds.getD n none):Nat):Int)]:=by
  simp [wgts,List.range_succ]
theorem wgts_at (k:Nat)(b:Pt)(cs ds:List Pt)(n i:Nat)(h:i<n):lk (wgts k b cs ds n) i=((wgt k b i (cs.getD i none) (ds.getD i none):Nat):Int):=by
  unfold lk wgts;rw [List.getD_eq_getElem?_getD,List.getElem?_map,List.getElem?_range h];rfl
def mixTo (ws:List Int)(ps:List Pt):Nat→Pt
  |0=>none
  |n+1=>ad (mixTo ws ps n) (nt (lk ws n).toNat (ps.getD n none))
theorem mixTo_on {ws:List Int}{ps:List Pt}(h:∀p∈ps,on p):∀n,on (mixTo ws ps n)
  |0=>trivial
  | n+1=>by
    refine ad_on (mixTo_on h n) (nt_on ?_ _);rw [List.getD_eq_getElem?_getD]
    cases hn:ps[n]? with
    |none=>trivial
    |some p=>exact h p (List.mem_of_getElem? hn)
def chalT (b m z x y:Pt):ByteArray:=sizB (ptB b)++sizB (ptB m)++sizB (ptB z)++sizB (ptB x)++sizB (ptB y)++challB
def chal (k:Nat)(b m z x y:Pt):Nat:=scaN (chalT b m z x y) k
abbrev Tri:=Nat×Nat×Bool
noncomputable def asT (t:Tri):Pt:=asPt t.1 t.2.1 t.2.2
noncomputable def onT (t:Tri):Bool:=(toPt t.1 t.2.1 t.2.2).isSome
theorem asT_on (t:Tri):on (asT t):=asPt_on _ _ _
def triW (t:Tri):Value:= .agg #[int u64 (t.1:Int),int u64 (t.2.1:Int),.bool t.2.2]
theorem triW_of {t:Tri}(h:onT t=true):triW t=ptW (asT t):=by
  unfold onT at h;obtain⟨p,hp⟩:=Option.isSome_iff_exists.1 h;unfold triW asT;rw [asPt_some hp];exact toPt_W hp
noncomputable def batB (mode:Int) (a b:Tri) (cs ds:List Tri):Bool:=decide (0≤mode∧mode≤2)&&onT a&&onT b&&decide (1≤cs.length∧cs.length≤200)&&decide (cs.length=ds.length)&&cs.all onT&&ds.all onT
theorem batB_iff (mode:Int)(a b:Tri)(cs ds:List Tri):batB mode a b cs ds=true↔(0≤mode∧mode≤2)∧onT a=true∧onT b=true∧(1≤cs.length∧cs.length≤200)∧cs.length=ds.length∧(∀t∈cs,onT t=true)∧∀t∈ds,onT t=true:=by
  unfold batB;simp only [Bool.and_eq_true,decide_eq_true_eq,List.all_eq_true,and_assoc]
structure Pts (W:World)(g o:Nat)(L:List Tri):Prop where
  lt:g<W.heap.size
  c0:∀i (t:Tri),L[i]? =some t→W.cell? ⟨g,o+i*3,none⟩=some (int u64 (t.1:Int))
  c1:∀i (t:Tri),L[i]? =some t→W.cell? ⟨g,o+i*3+1,none⟩=some (int u64 (t.2.1:Int))
  c2:∀i (t:Tri),L[i]? =some t→W.cell? ⟨g,o+i*3+2,none⟩=some (.bool t.2.2)
theorem Pts.below {W W':World}{g o:Nat}{L:List Tri}(h:Pts W g o L){B:Nat}(hb:Below B W W')(hg:g<B):Pts W' g o L:=
  have e:∀i,W'.cell? ⟨g,i,none⟩=W.cell? ⟨g,i,none⟩:=fun i=>World.cell?_of_block (w:=W) (a:=⟨g,i,none⟩) (hb.block g hg)
  ⟨Nat.lt_of_lt_of_le h.lt hb.size,fun i t ht=>(e _).trans (h.c0 i t ht),fun i t ht=>(e _).trans (h.c1 i t ht),fun i t ht=>(e _).trans (h.c2 i t ht)⟩
theorem Pts.keep {W W':World}{g o:Nat}{L:List Tri}(h:Pts W g o L)(hb:Bl W W'):Pts W' g o L:=h.below hb h.lt
end
theorem lkb (a:ByteArray)(k:Nat)(h:k<a.size):lk (byt a) k=(a[k].toNat:Int):=by
  unfold lk byt;rw [List.getD_eq_getElem?_getD,List.getElem?_map,List.getElem?_eq_getElem (by simpa using h)];rfl
theorem xorB_set (a b:ByteArray)(k:Nat)(ha:k<a.size)(hb:k<b.size):
    ((xorB (byt a) (byt b)).take k++(byt a).drop k).set k ((a[k].toNat^^^b[k].toNat:Nat):Int)=(xorB (byt a) (byt b)).take (k+1)++(byt a).drop (k+1):=by
  have hl:((xorB (byt a) (byt b)).take k).length=k:=by rw [List.length_take,xorB_length,byt_length,byt_length];omega
  rw [List.drop_eq_getElem_cons (by rw [byt_length];exact ha),set_at _ _ _ _ _ hl,xorB_take a b k ha hb,←cons_snoc]
theorem xorT_any (a b:ByteArray)(w:World)(ha:a.size≤1000)(hab:a.size≤b.size):
    Cr 191 #[.string a,.string b] w (.string (strOfNums (xorB (byt a) (byt b)))):=by
  obtain⟨cap0,w1,hcv,hrow0,hbl0⟩:∃cap0 w1,(convert 9 22 (.string a)).run prog w= .ok (.slice (some ⟨w.heap.size,0,none⟩) a.size cap0) w1∧
      Row w1 w.heap.size w.heap.size a.size cap0 ((byt a).map (Value.int .u8))∧Bl w w1:=
    ⟨_,_,Lib.run_convert_string_bytes w 9 22 5 a underlying9 underlying22 underlying5,row_bytes w _ a w.heap.size (Nat.le_refl _) (by unfold maxLen;omega)⟩
  have hxl:(xorB (byt a) (byt b)).length=a.size:=by rw [xorB_length,byt_length,byt_length];omega
  have hset:=xorB_set a b;obtain⟨X,hX⟩:∃X,X=xorB (byt a) (byt b):=⟨_,rfl⟩;rw [←hX] at hxl hset⊢;go_enter func191,ntmps191;go_wp2
  go_loopw [6,11] (fun _ i wr=>∃k:Nat,k≤a.size∧i= .int .i64 (k:Int)∧Row wr w.heap.size w.heap.size a.size cap0 ((X.take k++(byt a).drop k).map (Value.int .u8))∧Bl w wr) (fun _ i _=>a.size-(intOf i).toNat)
  case atStart=>exact ⟨0,by omega,rfl,by simpa using hrow0,hbl0⟩
  case round=>
    clear hrow0 hbl0 hcv hX;obtain⟨k,hk,rfl,hrow,hbl⟩:=hrel;have hbk:=hrow.le;by_cases hlt:k<a.size
    · have hlt2:k<b.size:=by omega
      have hc:=hrow.cell k hlt
      have hlk:lk (X.take k++(byt a).drop k) k=(a[k].toNat:Int):=by
        rw [List.drop_eq_getElem_cons (by rw [byt_length];exact hlt),lk_mid _ _ _ _ (by rw [List.length_take];omega)];have:=lkb a k hlt;unfold lk at this;rw [List.getD_eq_getElem?_getD,List.getElem?_eq_getElem (by rw [byt_length];exact hlt)] at this;exact this
      rw [hlk] at hc;have hfz:=(hrow.room k (by omega)).2;have hst:=hset k hlt hlt2;have ex:=u8_xor_nat a[k].toNat b[k].toNat a[k].toNat_lt b[k].toNat_lt;have q0:(0:Int)≤(k:Int):=by omega
      have q1:(k:Int)<(a.size:Int):=by omega
      have q2:(k:Int)<(b.size:Int):=by omega
      generalize a[k].toNat=za at*;generalize hzz:za^^^b[k].toNat=z at*;clear hlk hset hzz;go_wp2
      go_region
      have R1:=(hrow.set k hlt (.int .u8 (z:Int))).drew;rw [←List.map_set,hst] at R1;have R2:=(hbl.setCell (p:=⟨w.heap.size,k,none⟩) (Nat.le_refl _) (.int .u8 (z:Int))).drew;clear hst ex hc hrow hbl;go_wp2;go_roundw
      case rel=>
        first
          |exact ⟨k+1,by omega,by go_num,R1,R2⟩
          |((repeat apply Exists.intro);exact⟨⟨k+1,by omega,by go_num,R1,R2⟩,rfl⟩)
      case measure=>simp [intOf];omega
    · obtain rfl:k=a.size:=by omega
      rw [List.take_of_length_le (by omega),List.drop_of_length_le (by rw [byt_length];omega),List.append_nil] at hrow;have hcv:=run_convert_bytes_arg (P:=prog) wr 22 5 underlying22 underlying5 w.heap.size 0 a.size cap0 X hxl (fun i h=>by rw [Nat.zero_add];exact hrow.cell i h) 9 underlying9;go_wp2;go_ret;exact⟨rfl,hbl⟩
end Go.Proofs.YtjmhmajfkdglnabGreatDoor
