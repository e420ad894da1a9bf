import Derived.Test.YtjhbckngdclleaaGreatDoorMrg28
set_option linter.unusedVariables false
set_option maxRecDepth 100000
set_option maxHeartbeats 16000000
namespace Go.Proofs.YtjhbckngdclleaaGreatDoor
open Go.Proofs.Tryz Go.RowKit
open Go.Value (int)
open Go.IntKind (u64)
theorem dkS_any (mode:Int)(seed info:ByteArray)(w:World):
    Cr 16 #[.int .i64 mode,.string seed,.string info] w (.tuple #[int u64 ((dkV mode seed info).1:Nat),.int .i64 (dkV mode seed info).2]):=by
  unfold dkV
  cases h:dkB mode seed info with
  | false=>
    rw [if_neg (by decide)];exact dkS_bad mode seed info w h
  | true=>
    rw [if_pos rfl];unfold dkB at h;obtain⟨⟨m1,m2⟩,hs,hi⟩:=of_decide_eq_true h;exact dkS_yes mode seed info w m1 m2 hs hi
theorem beTo1 (j:Nat)(h:j<256):beTo (j:Int) 1= [(j:Int)]:=by
  simp only [beTo];simp;omega
theorem wthZ (t s:ByteArray)(i:Nat)(w:World)(h:t.size≤200000)(hs:s.size≤65535)(hr:w.heap[i]? =some (.cells #[.iface 156 (.string s)] 243)):
    Cr 105 #[.string t,.slice (some ⟨i,0,none⟩) 1 1] w (.string (t++sizB s)):=by
  have:=with_blk t [(.iface 156 (.string s),sizB s)] i 1 _ _ w hr rfl rfl (by omega) (by
    intro vs hvs;simp only [List.mem_cons,List.not_mem_nil,or_false] at hvs;subst hvs
    exact writZ s hs) (by
      show(t++sizB s).size≤_
      rw [ByteArray.size_append,sizB_size];omega)
  exact this
theorem wthP (t s:ByteArray)(i:Nat)(w:World)(h:t.size≤200000)(hs:s.size≤65535)(hr:w.heap[i]? =some (.cells #[.iface 155 (.string s)] 243)):
    Cr 105 #[.string t,.slice (some ⟨i,0,none⟩) 1 1] w (.string (t++s)):=by
  have:=with_blk t [(.iface 155 (.string s),s)] i 1 _ _ w hr rfl rfl (by omega) (by
    intro vs hvs;simp only [List.mem_cons,List.not_mem_nil,or_false] at hvs;subst hvs
    exact writP s) (by
      show(t++s).size≤_
      rw [ByteArray.size_append];omega)
  exact this
section
open M
theorem baseS (w:World):Cr 28 #[] w (ptW gG):=by
  go_enter func28,ntmps28;go_wp2;refine bodyPost_ret (v:= .agg #[int u64 1,int u64 509478702933351334,.bool false]) (by simp [results,results28,go_sem]) rfl ⟨rfl,(Below.refl _ w).alloc (Nat.le_refl _) _⟩
end
theorem Bk.sameS {W:World}{t:TypeId}{b:Nat}{cs:Array Value}(h:Bk W t b cs)(k:Nat){v:Value}(hv:cs[k]? =some v):W.setCell ⟨b,k,none⟩ v=W:=by
  have hh:W.heap[b]? =some (.cells cs t):=h
  have e:(W.setCell ⟨b,k,none⟩ v).heap=W.heap:=by
    unfold World.setCell;dsimp only;apply Array.ext (by simp);intro i h1 h2;rw [Array.getElem_modify];split
    · next hi=>
      subst hi;have e1:=(Array.getElem?_eq_some_iff.1 hh).2;rw [e1];obtain⟨hk,hk2⟩:=Array.getElem?_eq_some_iff.1 hv
      have e2:cs.setIfInBounds k v=cs:=by
        rw [Array.setIfInBounds_def,dif_pos hk,←hk2,Array.set_getElem_self]
      simp [e2]
    · rfl
  show {W with heap:=(W.setCell ⟨b,k,none⟩ v).heap}=W;rw [e]
theorem str_neS {s t:ByteArray}(h:s≠t):(s.toList==t.toList)=false:=by
  rw [beq_eq_false_iff_ne];intro e;apply h;rw [ByteArray.toList_eq,ByteArray.toList_eq] at e;cases s;cases t;exact congrArg ByteArray.mk (by simpa using e)
section
variable {W:World}{b:Nat}{t:TypeId}{cs:Array Value}
theorem bk_res3 {fn:Func}{p u v:Tmp}{d:TypeDesc}(h:fn.results=#[.cell p t,.tmp u,.tmp v])(tmps:Array Value)(hp:tmps.getD p undef= .pointer (some ⟨b,0,none⟩))(hc:Bk W t b cs)(hu:prog.underlying t=some d)(hd:d.isRow=true)(hi:(prog.info? t).map (·.size)=some cs.size):
    (results fn tmps).run prog W= .ok (.tuple #[.agg cs,tmps.getD u undef,tmps.getD v undef]) W:=by
  have hp':tmps[p]?.getD undef= .pointer (some ⟨b,0,none⟩):=by simpa using hp
  have hl:=run_loadVar_mid (P:=prog) W b 0 t cs.toList d hc.range hu hd (by rw [hi,Array.length_toList]);simp [results,h,hp',asAddr,hl]
end
section
open M
theorem cf7P (args:Array Value)(w:World):(callFunc 44 args).run prog w= .ok (.enter 44 args) w:=by kernel_rfl
theorem cf7Z (args:Array Value)(w:World):(callFunc 46 args).run prog w= .ok (.enter 46 args) w:=by kernel_rfl
theorem cf7H (args:Array Value)(w:World):(callFunc 43 args).run prog w= .ok (.enter 43 args) w:=by kernel_rfl
theorem partS (s n word:ByteArray)(w:World)(hs:s.size≤1048576)(hn:n.size≤1000000)(hw:word.size≤1000):
    Cr 44 #[.string s,.string n,.string word] w (.string (prB s n word)):=by
  have hz:=slX_size s;have XS:∀w,Cr 67 #[.string ⟨#[]⟩,.string s] w (.string (slX s)):=fun w=>extractS_any _ _ w (by decide) (by omega)
  have EX:∀w,Cr 101 #[.string (slX s),.string (n++word),.int .i64 ((32:Nat):Int)] w (.tuple #[.string (prB s n word),.bool true]):=fun w=>expS_yes (slX s) (n++word) 32 w (by omega) (by rw [ByteArray.size_append];omega) (by decide)
  generalize prB s n word=r at*;generalize slX s=X at*;have hc: ¬ (9223372036854775807<n.size+word.size):=by omega
  go_enter func44,ntmps44;go_wp2_with fail;refine(XS _).mono ?_;rintro e w1 ⟨rfl,b1⟩;go_wp2_with fail;refine(EX _).mono ?_;rintro e w2 ⟨rfl,b2⟩;replace b1:=b1.tr b2;go_wp2;go_ret;exact⟨rfl,b1⟩
theorem privS (s n:ByteArray)(w:World)(hs:s.size≤1048576)(hn:n.size≤1000000):
    Cr 39 #[.string s,.string n] w (.tuple #[int u64 ((prK s n).1:Nat),.bool (decide ((prK s n).2=0))]):=by
  have PA:∀w,Cr 44 #[.string s,.string n,.string ⟨#[80,114,105,118,97,116,101]⟩] w (.string (prB s n wPrv)):=fun w=>partS s n wPrv w hs hn (by decide)
  have DK:∀w,Cr 16 #[.int .i64 0,.string (prB s n wPrv),.string ⟨#[67,108,105,101,110,116]⟩] w (.tuple #[int u64 ((prK s n).1:Nat),.int .i64 (prK s n).2]):=fun w=>dkS_any 0 (prB s n wPrv) wCli w
  generalize prK s n=kc at*;obtain⟨k,c⟩:=kc;simp only at DK⊢;generalize prB s n wPrv=pr at*;go_enter func39,ntmps39;go_wp2_with fail;refine(PA _).mono ?_;rintro e w1 ⟨rfl,b1⟩;go_wp2_with fail;refine(DK _).mono ?_;rintro e w2 ⟨rfl,b2⟩;replace b1:=b1.tr b2;go_wp2;exact bodyPost_ret (v:= .tuple #[int u64 (k:Int),.bool (decide (c=0))]) (by simp [results,results39,go_sem];rfl) rfl ⟨rfl,b1⟩
section
variable (s n:ByteArray)(t:Tri)(u:ByteArray)(w:World)
theorem selS_bad (h:slC s n t u=false)(hl1:s.size≤1048576)(hl2:n.size≤1048576)(hl3:u.size≤1048576):
    Cr 12 #[.string s,.string n,.agg #[int u64 (t.1:Int),int u64 (t.2.1:Int),.bool t.2.2],.string u] w (.tuple #[.agg rcZ.toArray,.string ⟨#[]⟩,.bool false]):=by
  unfold rcZ;have h6:=Bk.new w 27 #[int u64 (t.1:Int),int u64 (t.2.1:Int),.bool t.2.2];have hB:=balc w (Obj.cells #[int u64 (t.1:Int),int u64 (t.2.1:Int),.bool t.2.2] 27);obtain⟨W1,hW1⟩:∃W,w.alloc (Obj.cells #[int u64 (t.1:Int),int u64 (t.2.1:Int),.bool t.2.2] 27)=W:=⟨_,rfl⟩;rw [hW1] at h6 hB;have h8:=Bk.new W1 31 #[.string ⟨#[]⟩,int u64 0,int u64 0,.bool false,.string ⟨#[]⟩];replace h6:=h6.alloc (Obj.cells #[.string ⟨#[]⟩,int u64 0,int u64 0,.bool false,.string ⟨#[]⟩] 31);replace hB:=hB.alloc hB.size (Obj.cells #[.string ⟨#[]⟩,int u64 0,int u64 0,.bool false,.string ⟨#[]⟩] 31);obtain⟨W2,hW2⟩:∃W,W1.alloc (Obj.cells #[.string ⟨#[]⟩,int u64 0,int u64 0,.bool false,.string ⟨#[]⟩] 31)=W:=⟨_,rfl⟩;rw [hW2] at h6 h8 hB;obtain⟨b8,hb8⟩:∃b,W1.heap.size=b:=⟨_,rfl⟩;rw [hb8] at h8;unfold slC at h;have p0:W2.cell? ⟨w.heap.size,0,none⟩=some (int u64 (t.1:Int)):=h6.cell (k:=0) rfl;have p1:W2.cell? ⟨w.heap.size,1,none⟩=some (int u64 (t.2.1:Int)):=h6.cell (k:=1) rfl;have p2:W2.cell? ⟨w.heap.size,2,none⟩=some (.bool t.2.2):=h6.cell (k:=2) rfl;by_cases q1:s.size=32
  · by_cases q2:n.size=16
    · have EL:=fun w=>elS_any t w
      cases q3:elT t with
      | false=>
        rw [q3] at EL;clear h;go_enter func12,ntmps12;go_wp2_with fail;refine(EL _).mono ?_;rintro e w1 ⟨rfl,d1⟩;replace h8:=h8.keep d1;replace hB:=hB.tr d1;clear d1 p0 p1 p2 hW1 hW2 h6 EL;have cz0:w1.cell? ⟨b8,0,none⟩=some (.string ⟨#[]⟩):=h8.cell (k:=0) rfl;have fz0:=h8.frz 0;have ez0:w1.setCell ⟨b8,0,none⟩ (.string ⟨#[]⟩)=w1:=h8.sameS 0 rfl;have cz1:w1.cell? ⟨b8,1,none⟩=some (int u64 0):=h8.cell (k:=1) rfl;have fz1:=h8.frz 1;have ez1:w1.setCell ⟨b8,1,none⟩ (int u64 0)=w1:=h8.sameS 1 rfl;have cz2:w1.cell? ⟨b8,2,none⟩=some (int u64 0):=h8.cell (k:=2) rfl;have fz2:=h8.frz 2;have ez2:w1.setCell ⟨b8,2,none⟩ (int u64 0)=w1:=h8.sameS 2 rfl;have cz3:w1.cell? ⟨b8,3,none⟩=some (.bool false):=h8.cell (k:=3) rfl;have fz3:=h8.frz 3;have ez3:w1.setCell ⟨b8,3,none⟩ (.bool false)=w1:=h8.sameS 3 rfl;have cz4:w1.cell? ⟨b8,4,none⟩=some (.string ⟨#[]⟩):=h8.cell (k:=4) rfl;have fz4:=h8.frz 4;have ez4:w1.setCell ⟨b8,4,none⟩ (.string ⟨#[]⟩)=w1:=h8.sameS 4 rfl;go_wp2
        all_goals
          exact bodyPost_ret (v:= .tuple #[.agg #[.string ⟨#[]⟩,int u64 0,int u64 0,.bool false,.string ⟨#[]⟩],.string ⟨#[]⟩,.bool false]) (bk_res3 (fn:=Tryz.f12) (p:=8) (u:=9) (v:=10) results12 _ rfl h8 underlying31 rfl (by kernel_rfl)) rfl ⟨rfl,hB⟩
      | true=>
        rw [q3,decide_eq_true q1,decide_eq_true q2] at h;have NM:=fun w=>nmS u w
        rw [show nameB u=false by simpa using h] at NM;rw [q3] at EL;clear h;go_enter func12,ntmps12;go_wp2_with fail;refine(EL _).mono ?_;rintro e w1 ⟨rfl,d1⟩;replace h8:=h8.keep d1;replace hB:=hB.tr d1;clear d1 p0 p1 p2 hW1 hW2 h6 EL;have cz0:w1.cell? ⟨b8,0,none⟩=some (.string ⟨#[]⟩):=h8.cell (k:=0) rfl;have fz0:=h8.frz 0;have ez0:w1.setCell ⟨b8,0,none⟩ (.string ⟨#[]⟩)=w1:=h8.sameS 0 rfl;have cz1:w1.cell? ⟨b8,1,none⟩=some (int u64 0):=h8.cell (k:=1) rfl;have fz1:=h8.frz 1;have ez1:w1.setCell ⟨b8,1,none⟩ (int u64 0)=w1:=h8.sameS 1 rfl;have cz2:w1.cell? ⟨b8,2,none⟩=some (int u64 0):=h8.cell (k:=2) rfl;have fz2:=h8.frz 2;have ez2:w1.setCell ⟨b8,2,none⟩ (int u64 0)=w1:=h8.sameS 2 rfl;have cz3:w1.cell? ⟨b8,3,none⟩=some (.bool false):=h8.cell (k:=3) rfl;have fz3:=h8.frz 3;have ez3:w1.setCell ⟨b8,3,none⟩ (.bool false)=w1:=h8.sameS 3 rfl;have cz4:w1.cell? ⟨b8,4,none⟩=some (.string ⟨#[]⟩):=h8.cell (k:=4) rfl;have fz4:=h8.frz 4;have ez4:w1.setCell ⟨b8,4,none⟩ (.string ⟨#[]⟩)=w1:=h8.sameS 4 rfl;go_wp2_with fail;refine(NM _).mono ?_;rintro e w2 ⟨rfl,rfl⟩;go_wp2
        all_goals
          exact bodyPost_ret (v:= .tuple #[.agg #[.string ⟨#[]⟩,int u64 0,int u64 0,.bool false,.string ⟨#[]⟩],.string ⟨#[]⟩,.bool false]) (bk_res3 (fn:=Tryz.f12) (p:=8) (u:=9) (v:=10) results12 _ rfl h8 underlying31 rfl (by kernel_rfl)) rfl ⟨rfl,hB⟩
    · have q1':(s.size:Int)=32:=by omega
      have q2': ¬ ((n.size:Int)=16):=by omega
      have cz0:W2.cell? ⟨b8,0,none⟩=some (.string ⟨#[]⟩):=h8.cell (k:=0) rfl;have fz0:=h8.frz 0;have ez0:W2.setCell ⟨b8,0,none⟩ (.string ⟨#[]⟩)=W2:=h8.sameS 0 rfl;have cz1:W2.cell? ⟨b8,1,none⟩=some (int u64 0):=h8.cell (k:=1) rfl;have fz1:=h8.frz 1;have ez1:W2.setCell ⟨b8,1,none⟩ (int u64 0)=W2:=h8.sameS 1 rfl;have cz2:W2.cell? ⟨b8,2,none⟩=some (int u64 0):=h8.cell (k:=2) rfl;have fz2:=h8.frz 2;have ez2:W2.setCell ⟨b8,2,none⟩ (int u64 0)=W2:=h8.sameS 2 rfl;have cz3:W2.cell? ⟨b8,3,none⟩=some (.bool false):=h8.cell (k:=3) rfl;have fz3:=h8.frz 3;have ez3:W2.setCell ⟨b8,3,none⟩ (.bool false)=W2:=h8.sameS 3 rfl;have cz4:W2.cell? ⟨b8,4,none⟩=some (.string ⟨#[]⟩):=h8.cell (k:=4) rfl;have fz4:=h8.frz 4;have ez4:W2.setCell ⟨b8,4,none⟩ (.string ⟨#[]⟩)=W2:=h8.sameS 4 rfl;clear h;go_enter func12,ntmps12;go_wp2
      all_goals
        exact bodyPost_ret (v:= .tuple #[.agg #[.string ⟨#[]⟩,int u64 0,int u64 0,.bool false,.string ⟨#[]⟩],.string ⟨#[]⟩,.bool false]) (bk_res3 (fn:=Tryz.f12) (p:=8) (u:=9) (v:=10) results12 _ rfl h8 underlying31 rfl (by kernel_rfl)) rfl ⟨rfl,hB⟩
  · have q1': ¬ ((s.size:Int)=32):=by omega
    have cz0:W2.cell? ⟨b8,0,none⟩=some (.string ⟨#[]⟩):=h8.cell (k:=0) rfl;have fz0:=h8.frz 0;have ez0:W2.setCell ⟨b8,0,none⟩ (.string ⟨#[]⟩)=W2:=h8.sameS 0 rfl;have cz1:W2.cell? ⟨b8,1,none⟩=some (int u64 0):=h8.cell (k:=1) rfl;have fz1:=h8.frz 1;have ez1:W2.setCell ⟨b8,1,none⟩ (int u64 0)=W2:=h8.sameS 1 rfl;have cz2:W2.cell? ⟨b8,2,none⟩=some (int u64 0):=h8.cell (k:=2) rfl;have fz2:=h8.frz 2;have ez2:W2.setCell ⟨b8,2,none⟩ (int u64 0)=W2:=h8.sameS 2 rfl;have cz3:W2.cell? ⟨b8,3,none⟩=some (.bool false):=h8.cell (k:=3) rfl;have fz3:=h8.frz 3;have ez3:W2.setCell ⟨b8,3,none⟩ (.bool false)=W2:=h8.sameS 3 rfl;have cz4:W2.cell? ⟨b8,4,none⟩=some (.string ⟨#[]⟩):=h8.cell (k:=4) rfl;have fz4:=h8.frz 4;have ez4:W2.setCell ⟨b8,4,none⟩ (.string ⟨#[]⟩)=W2:=h8.sameS 4 rfl;clear h;go_enter func12,ntmps12;go_wp2
    all_goals
      exact bodyPost_ret (v:= .tuple #[.agg #[.string ⟨#[]⟩,int u64 0,int u64 0,.bool false,.string ⟨#[]⟩],.string ⟨#[]⟩,.bool false]) (bk_res3 (fn:=Tryz.f12) (p:=8) (u:=9) (v:=10) results12 _ rfl h8 underlying31 rfl (by kernel_rfl)) rfl ⟨rfl,hB⟩
theorem selS_key (h:slC s n t u=true)(hk:decide ((prK s n).2=0)=false):
    Cr 12 #[.string s,.string n,.agg #[int u64 (t.1:Int),int u64 (t.2.1:Int),.bool t.2.2],.string u] w (.tuple #[.agg rcZ.toArray,.string ⟨#[]⟩,.bool false]):=by
  unfold rcZ;have h6:=Bk.new w 27 #[int u64 (t.1:Int),int u64 (t.2.1:Int),.bool t.2.2];have hB:=balc w (Obj.cells #[int u64 (t.1:Int),int u64 (t.2.1:Int),.bool t.2.2] 27);obtain⟨W1,hW1⟩:∃W,w.alloc (Obj.cells #[int u64 (t.1:Int),int u64 (t.2.1:Int),.bool t.2.2] 27)=W:=⟨_,rfl⟩;rw [hW1] at h6 hB;have h8:=Bk.new W1 31 #[.string ⟨#[]⟩,int u64 0,int u64 0,.bool false,.string ⟨#[]⟩];have hlt:w.heap.size<W1.heap.size:=h6.lt;replace h6:=h6.alloc (Obj.cells #[.string ⟨#[]⟩,int u64 0,int u64 0,.bool false,.string ⟨#[]⟩] 31);replace hB:=hB.alloc hB.size (Obj.cells #[.string ⟨#[]⟩,int u64 0,int u64 0,.bool false,.string ⟨#[]⟩] 31);obtain⟨W2,hW2⟩:∃W,W1.alloc (Obj.cells #[.string ⟨#[]⟩,int u64 0,int u64 0,.bool false,.string ⟨#[]⟩] 31)=W:=⟨_,rfl⟩;rw [hW2] at h6 h8 hB;obtain⟨b8,hb8⟩:∃b,W1.heap.size=b:=⟨_,rfl⟩;obtain⟨b6,hb6⟩:∃b,w.heap.size=b:=⟨_,rfl⟩;have hl8:w.heap.size≤b8:=by omega
  rw [hb8] at h8;rw [hb6] at h6;clear hlt;unfold slC at h;simp only [Bool.and_eq_true,decide_eq_true_eq] at h;obtain⟨⟨⟨q1,q2⟩,q3⟩,q4⟩:=h;have hu:1≤u.size∧u.size≤32:=of_decide_eq_true q4;have EL:=fun w=>elS_any t w
  have NM:=fun w=>nmS u w
  have PR:=fun w=>privS s n w (by omega) (by omega)
  rw [q3] at EL;rw [q4] at NM;rw [hk] at PR;have p0:W2.cell? ⟨b6,0,none⟩=some (int u64 (t.1:Int)):=h6.cell (k:=0) rfl;have p1:W2.cell? ⟨b6,1,none⟩=some (int u64 (t.2.1:Int)):=h6.cell (k:=1) rfl;have p2:W2.cell? ⟨b6,2,none⟩=some (.bool t.2.2):=h6.cell (k:=2) rfl;go_enter func12,ntmps12;go_wp2_with fail;refine(EL _).mono ?_;rintro e w0 ⟨rfl,d1⟩;replace h8:=h8.keep d1;replace h6:=h6.keep d1;replace hB:=hB.tr d1;clear d1 p0 p1 p2 hW1 hW2 EL;go_wp2_with fail;refine(NM _).mono ?_;rintro e w1' ⟨rfl,rfl⟩;go_wp2_with fail;refine(PR _).mono ?_;rintro e w1 ⟨rfl,d1⟩;replace h8:=h8.keep d1;replace h6:=h6.keep d1;replace hB:=hB.tr d1;clear d1 NM PR;have cz0:w1.cell? ⟨b8,0,none⟩=some (.string ⟨#[]⟩):=h8.cell (k:=0) rfl;have fz0:=h8.frz 0;have ez0:w1.setCell ⟨b8,0,none⟩ (.string ⟨#[]⟩)=w1:=h8.sameS 0 rfl;have cz1:w1.cell? ⟨b8,1,none⟩=some (int u64 0):=h8.cell (k:=1) rfl;have fz1:=h8.frz 1;have ez1:w1.setCell ⟨b8,1,none⟩ (int u64 0)=w1:=h8.sameS 1 rfl;have cz2:w1.cell? ⟨b8,2,none⟩=some (int u64 0):=h8.cell (k:=2) rfl;have fz2:=h8.frz 2;have ez2:w1.setCell ⟨b8,2,none⟩ (int u64 0)=w1:=h8.sameS 2 rfl;have cz3:w1.cell? ⟨b8,3,none⟩=some (.bool false):=h8.cell (k:=3) rfl;have fz3:=h8.frz 3;have ez3:w1.setCell ⟨b8,3,none⟩ (.bool false)=w1:=h8.sameS 3 rfl;have cz4:w1.cell? ⟨b8,4,none⟩=some (.string ⟨#[]⟩):=h8.cell (k:=4) rfl;have fz4:=h8.frz 4;have ez4:w1.setCell ⟨b8,4,none⟩ (.string ⟨#[]⟩)=w1:=h8.sameS 4 rfl;go_wp2
  all_goals
    exact bodyPost_ret (v:= .tuple #[.agg #[.string ⟨#[]⟩,int u64 0,int u64 0,.bool false,.string ⟨#[]⟩],.string ⟨#[]⟩,.bool false]) (bk_res3 (fn:=Tryz.f12) (p:=8) (u:=9) (v:=10) results12 _ rfl h8 underlying31 rfl (by kernel_rfl)) rfl ⟨rfl,hB⟩
theorem selS_yes (h:slC s n t u=true)(hk:decide ((prK s n).2=0)=true):
    Cr 12 #[.string s,.string n,.agg #[int u64 (t.1:Int),int u64 (t.2.1:Int),.bool t.2.2],.string u] w (.tuple #[.agg #[.string u,int u64 (px (slP s n)),int u64 (py (slP s n)),.bool (pb (slP s n)),.string (n++slM s n t u)],.string (prB s n wExp),.bool true]):=by
  have h6:=Bk.new w 27 #[int u64 (t.1:Int),int u64 (t.2.1:Int),.bool t.2.2];have hB:=balc w (Obj.cells #[int u64 (t.1:Int),int u64 (t.2.1:Int),.bool t.2.2] 27);obtain⟨W1,hW1⟩:∃W,w.alloc (Obj.cells #[int u64 (t.1:Int),int u64 (t.2.1:Int),.bool t.2.2] 27)=W:=⟨_,rfl⟩;rw [hW1] at h6 hB;have h8:=Bk.new W1 31 #[.string ⟨#[]⟩,int u64 0,int u64 0,.bool false,.string ⟨#[]⟩];have hlt:w.heap.size<W1.heap.size:=h6.lt;replace h6:=h6.alloc (Obj.cells #[.string ⟨#[]⟩,int u64 0,int u64 0,.bool false,.string ⟨#[]⟩] 31);replace hB:=hB.alloc hB.size (Obj.cells #[.string ⟨#[]⟩,int u64 0,int u64 0,.bool false,.string ⟨#[]⟩] 31);obtain⟨W2,hW2⟩:∃W,W1.alloc (Obj.cells #[.string ⟨#[]⟩,int u64 0,int u64 0,.bool false,.string ⟨#[]⟩] 31)=W:=⟨_,rfl⟩;rw [hW2] at h6 h8 hB;obtain⟨b8,hb8⟩:∃b,W1.heap.size=b:=⟨_,rfl⟩;obtain⟨b6,hb6⟩:∃b,w.heap.size=b:=⟨_,rfl⟩;have hl8:w.heap.size≤b8:=by omega
  rw [hb8] at h8;rw [hb6] at h6;clear hlt;unfold slC at h;simp only [Bool.and_eq_true,decide_eq_true_eq] at h;obtain⟨⟨⟨q1,q2⟩,q3⟩,q4⟩:=h;have hu:1≤u.size∧u.size≤32:=of_decide_eq_true q4;have EL:=fun w=>elS_any t w
  have NM:=fun w=>nmS u w
  have PR:=fun w=>privS s n w (by omega) (by omega)
  rw [q3] at EL;rw [q4] at NM;rw [hk] at PR;have p0:W2.cell? ⟨b6,0,none⟩=some (int u64 (t.1:Int)):=h6.cell (k:=0) rfl;have p1:W2.cell? ⟨b6,1,none⟩=some (int u64 (t.2.1:Int)):=h6.cell (k:=1) rfl;have p2:W2.cell? ⟨b6,2,none⟩=some (.bool t.2.2):=h6.cell (k:=2) rfl;have hs1:s.size≤1048576:=by omega
  have hn1:n.size≤1000000:=by omega
  have hu1:u.size≤65535:=by omega
  have BS:=fun w=>baseS w
  have TM:=fun w=>timS_any (prK s n).1 1 509478702933351334 false w (prK_lt s n)
  rw [asG] at TM;have eG:ptW gG= .agg #[int u64 ((1:Nat):Int),int u64 ((509478702933351334:Nat):Int),.bool false]:=rfl;rw [eG] at BS;rw [show nt (prK s n).1 gG=slP s n from rfl,ptW_eq] at TM;clear eG;have PX:∀w,Cr 44 #[.string s,.string n,.string ⟨#[69,120,112,111,114,116]⟩] w (.string (prB s n wExp)):=fun w=>partS s n wExp w hs1 hn1 (by decide)
  have hzM:=slM_size s n t u;have hcc: ¬ (9223372036854775807<n.size+(slM s n t u).size):=by omega
  generalize px (slP s n)=xx at*;generalize py (slP s n)=yy at*;generalize pb (slP s n)=zz at*;generalize prB s n wExp=EX at*;go_enter func12,ntmps12;go_wp2_with fail;refine(EL _).mono ?_;rintro e w0 ⟨rfl,d1⟩;replace h8:=h8.keep d1;replace h6:=h6.keep d1;replace hB:=hB.tr d1;clear d1 p0 p1 p2 hW1 hW2 EL;go_wp2_with fail;refine(NM _).mono ?_;rintro e w1' ⟨rfl,rfl⟩;go_wp2_with fail;refine(PR _).mono ?_;rintro e w1 ⟨rfl,d1⟩;replace h8:=h8.keep d1;replace h6:=h6.keep d1;replace hB:=hB.tr d1;clear d1 NM PR;go_wp2
  refine G.pool_list (W:=w1) [] [.val (.string s),
      .val (.string n),
      .val (.string (prB s n wAut)),
      .val (.string n),
      .val (.agg #[int u64 (t.1:Int),int u64 (t.2.1:Int),.bool t.2.2]),
      .val (.string (pB (asT t))),
      .val (.string (n++pB (asT t))),
      .val (.string u),
      .val (.string (sizB u)),
      .val (.string (n++pB (asT t)++sizB u)),
      .val (.string (slM s n t u)),
      .val (.string (slM s n t u))] [[0],[1],[42,43],[1],[6],[46],[45,47],[3],[49],[48,50],[44,51],[52]] (fun f=> [(some 42,.string s),(some 43,.string n),(some 44,.string (prB s n wAut)),(some 45,.string n),(some 46,.agg #[int u64 (t.1:Int),int u64 (t.2.1:Int),.bool t.2.2]),(some 47,.string (pB (asT t))),(some 48,.string (n++pB (asT t))),(some 49,.string u),(some 50,.string (sizB u)),(some 51,.string (n++pB (asT t)++sizB u)),(some 52,.string (slM s n t u)),(some 13,.string (slM s n t u))]) (by kernel_rfl) (by kernel_rfl) (by kernel_rfl) (by kernel_rfl) (fun _=>by kernel_rfl) (G.last_of [] (fun F R hm=>by simp at hm) (fun ob ob' k hm=>by simp at hm) (fun b ob ob' hm=>by simp at hm)) (fun b ob ob' hm=>by simp at hm) ?_ ?_
  · intro ix hix
    match ix,hix with
    |0,_=>exact G.obv [(0,.string s)] rfl rfl (fun A w ⟨e0,_⟩ hB=>Y.move e0)
    |1,_=>exact G.obv [(1,.string n)] rfl rfl (fun A w ⟨e0,_⟩ hB=>Y.move e0)
    |2,_=>exact G.obv [(42,.string s),(43,.string n)] rfl rfl (fun A w ⟨e0,e1,_⟩ hB=>Y.cl3 cf7P e0 e1 rfl (partS s n wAut w hs1 hn1 (by decide)))
    |3,_=>exact G.obv [(1,.string n)] rfl rfl (fun A w ⟨e0,_⟩ hB=>Y.move e0)
    |4,_=>exact G.obv [(6,.pointer (some ⟨b6,0,none⟩))] rfl rfl (fun A w ⟨e0,_⟩ hB=>Y.ldT underlying27 rfl (by kernel_rfl) e0 (Y.side hB h6))
    |5,_=>exact G.obv [(46,.agg #[int u64 (t.1:Int),int u64 (t.2.1:Int),.bool t.2.2])] rfl rfl (fun A w ⟨e0,_⟩ hB=>Y.cl1 cfpS e0 (putS_any t.1 t.2.1 t.2.2 w))
    |6,_=>exact G.obv [(45,.string n),(47,.string (pB (asT t)))] rfl rfl (fun A w ⟨e0,e1,_⟩ hB=>Y.cat e0 e1 (by rw [pB_size];omega))
    |7,_=>exact G.obv [(3,.string u)] rfl rfl (fun A w ⟨e0,_⟩ hB=>Y.move e0)
    |8,_=>exact G.obv [(49,.string u)] rfl rfl (fun A w ⟨e0,_⟩ hB=>Y.cl1 cf7Z e0 (sizS_any u w hu1))
    |9,_=>exact G.obv [(48,.string (n++pB (asT t))),(50,.string (sizB u))] rfl rfl (fun A w ⟨e0,e1,_⟩ hB=>Y.cat e0 e1 (by rw [ByteArray.size_append,pB_size,sizB_size];omega))
    |10,_=>exact G.obv [(44,.string (prB s n wAut)),(51,.string (n++pB (asT t)++sizB u))] rfl rfl (fun A w ⟨e0,e1,_⟩ hB=>Y.cl2 cf7H e0 e1 (hmacS_any _ _ w (by rw [prB_size];decide) (by rw [ByteArray.size_append,ByteArray.size_append,pB_size,sizB_size];omega)))
    |11,_=>exact G.obv [(52,.string (slM s n t u))] rfl rfl (fun A w ⟨e0,_⟩ hB=>Y.assign e0)
    |ix+12,h=>exact absurd h (by simp)
  intro f w2 hS y1 y2 y3 y4;have d2:Bl w1 w2:=(Below.refl _ w1).drew.trans hS.below;replace h8:=h8.keep d2;replace hB:=hB.tr d2;clear hS y1 y2 y3 y4 h6 d2;simp only [puts,List.foldl,Act.put,List.setIfInBounds_toArray,List.set_cons_zero,List.set_cons_succ];go_wp2_with fail;refine(BS _).mono ?_;rintro e w3 ⟨rfl,d1⟩;replace h8:=h8.keep d1;replace hB:=hB.tr d1;clear d1 BS;go_wp2_with fail;refine(TM _).mono ?_;rintro e w4 ⟨rfl,d1⟩;replace h8:=h8.keep d1;replace hB:=hB.tr d1;clear d1 TM;go_wp2_with fail;refine(PX _).mono ?_;rintro e w5 ⟨rfl,d1⟩;replace h8:=h8.keep d1;replace hB:=hB.tr d1;clear d1 PX;have cz0:w5.cell? ⟨b8,0,none⟩=some (.string ⟨#[]⟩):=h8.cell (k:=0) rfl;have fz0:=h8.frz 0;have cz1:w5.cell? ⟨b8,1,none⟩=some (int u64 0):=h8.cell (k:=1) rfl;have fz1:=h8.frz 1;have cz2:w5.cell? ⟨b8,2,none⟩=some (int u64 0):=h8.cell (k:=2) rfl;have fz2:=h8.frz 2;have cz3:w5.cell? ⟨b8,3,none⟩=some (.bool false):=h8.cell (k:=3) rfl;have fz3:=h8.frz 3;have cz4:w5.cell? ⟨b8,4,none⟩=some (.string ⟨#[]⟩):=h8.cell (k:=4) rfl;have fz4:=h8.frz 4;have hMn:=((((h8.set 0 (.string u)).set 1 (int u64 xx)).set 2 (int u64 yy)).set 3 (.bool zz)).set 4 (.string (n++slM s n t u));have hBn:=((((hB.setCell (p:=⟨b8,0,none⟩) hl8 (.string u)).setCell (p:=⟨b8,1,none⟩) hl8 (int u64 xx)).setCell (p:=⟨b8,2,none⟩) hl8 (int u64 yy)).setCell (p:=⟨b8,3,none⟩) hl8 (.bool zz)).setCell (p:=⟨b8,4,none⟩) hl8 (.string (n++slM s n t u));simp only [List.setIfInBounds_toArray,List.set_cons_zero,List.set_cons_succ] at hMn;go_wp2
  all_goals
    exact bodyPost_ret (v:= .tuple #[.agg #[.string u,int u64 xx,int u64 yy,.bool zz,.string (n++slM s n t u)],.string EX,.bool true]) (bk_res3 (fn:=Tryz.f12) (p:=8) (u:=9) (v:=10) results12 _ rfl hMn underlying31 rfl (by kernel_rfl)) rfl ⟨rfl,hBn⟩
theorem selS (hl1:s.size≤1048576)(hl2:n.size≤1048576)(hl3:u.size≤1048576):
    Cr 12 #[.string s,.string n,.agg #[int u64 (t.1:Int),int u64 (t.2.1:Int),.bool t.2.2],.string u] w (.tuple #[.agg (rcL s n t u).toArray,.string (xpB s n t u),.bool (slO s n t u)]):=by
  cases h:slC s n t u with
  | false=>
    have e:slO s n t u=false:=by unfold slO;rw [h];rfl
    unfold rcL xpB;rw [e];exact selS_bad s n t u w h hl1 hl2 hl3
  | true=>
    cases hk:decide ((prK s n).2=0) with
    | false=>
      have e:slO s n t u=false:=by unfold slO;rw [h,hk];rfl
      unfold rcL xpB;rw [e];exact selS_key s n t u w h hk
    | true=>
      have e:slO s n t u=true:=by unfold slO;rw [h,hk];rfl
      unfold rcL xpB;rw [e];exact selS_yes s n t u w h hk
end
end
end Go.Proofs.YtjhbckngdclleaaGreatDoor
