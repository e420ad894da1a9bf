import Derived.Test.YtjhbckngdclleaaGreatDoorMrg37
set_option linter.unusedVariables false
set_option maxRecDepth 100000
set_option maxHeartbeats 16000000
namespace Go.Proofs.YtjhbckngdclleaaGreatDoor
open Go.Proofs.Tryz Go.RowKit
open Go.Value (int)
open Go.IntKind (u64)
theorem ansU_err (s:Int)(v:Value)(c:Int)(a0 a1 a2 a3:Addr)(w:World)(hs:Sn w a0 a1 a2 a3)(hv:Er a0 a1 a2 a3 v c):
    Cr 56 #[int u64 s,v] w (.tuple #[int u64 0,.int .i64 c]):=by
  obtain⟨⟨T,x,rfl⟩,C⟩:=hv;go_enter func56,ntmps56;go_wp2_with fail;refine(C _ hs).mono ?_;rintro e w1 ⟨rfl,b1⟩;go_wp2;go_ret2;exact⟨rfl,b1⟩
theorem bel_dr {n:Nat}{w W:World}(h:Below n w W)(m:Nat):Below n w (W.drewN m):=⟨h.os,h.tape,h.output,h.size,h.block⟩
section
variable (mode:Int)(seed info cx:ByteArray)(a0 a2:Addr)(w:World)(hs:So w a0 a2)
include hs
variable (C:∀w,Calls prog 109 #[.int .i64 mode] w fun e w'=>e= .returned (.tuple #[.string cx,.bool true])∧w=w')
include C
theorem dkO_run (f:Nat→Nat)(T1 tg:ByteArray)(B TX:Nat→ByteArray)(hz:((seed.size:Int) !=32)=false)(hi: ¬ (60000:Int)<(info.size:Int))
    (Q1:∀i (w:World),w.heap[i]? =some (.cells #[.iface 156 (.string info)] 243)→Cr 105 #[.string seed,.slice (some ⟨i,0,none⟩) 1 1] w (.string T1))
    (BE:∀(j:Nat) (w:World),j<256→Cr 111 #[int u64 (j:Int),.int .i64 1] w (.string (B j)))
    (Q2:∀(j i:Nat) (w:World),j<256→w.heap[i]? =some (.cells #[.iface 155 (.string (B j))] 243)→Cr 105 #[.string T1,.slice (some ⟨i,0,none⟩) 1 1] w (.string (TX j)))
    (TG:Cc 112 #[.string cx,.string dkW] (.string tg))
    (H:∀(j:Nat) (w':World),j<256→Bl w w'→Cr 110 #[.string (TX j),.string tg] w' (.tuple #[.agg #[int u64 (f j:Nat)],.bool true])):
    Cr 57 #[.int .i64 mode,.string seed,.string info] w (.tuple #[int u64 ((dkR f 0 256).1:Nat),if (dkR f 0 256).2=0 then .nilIface else flt ⟨#[107,101,121]⟩ (sen a2)]):=by
  obtain⟨R,hR⟩:∃R,Hid (R=dkR f 0 256):=⟨_,rfl⟩;rw [←hR.out];obtain⟨V,hV⟩:∃V,Hid (V=(if R.2=0 then Value.nilIface else flt ⟨#[107,101,121]⟩ (sen a2))):=⟨_,rfl⟩;rw [←hV.out];unfold dkW at TG;have BE':Hid (∀(j:Nat) (w:World),j<256→Cr 111 #[int u64 (j:Int),.int .i64 1] w (.string (B j))):=BE;have Q2':Hid (∀(j i:Nat) (w:World),j<256→w.heap[i]? =some (.cells #[.iface 155 (.string (B j))] 243)→Cr 105 #[.string T1,.slice (some ⟨i,0,none⟩) 1 1] w (.string (TX j))):=Q2;have H':Hid (∀(j:Nat) (w':World),j<256→Bl w w'→Cr 110 #[.string (TX j),.string tg] w' (.tuple #[.agg #[int u64 (f j:Nat)],.bool true])):=H;clear BE Q2 H;go_enter func57,ntmps57;go_wp2_with fail;refine(C _).mono ?_;rintro e w1 ⟨rfl,rfl⟩;clear C;have hal:=balc w (Obj.cells #[.iface 156 (.string info)] 243);go_wp2_with fail;refine(Q1 _ _ (heap_alloc_new w _)).mono ?_;rintro e w2 ⟨rfl,b2⟩;have hb:=hal.tr b2;clear Q1 b2 hal;go_wp2
  go_loopw [41] (fun iv wr=>∃j:Nat,j≤256∧iv=int u64 (j:Int)∧Hid (R=dkR f j (256-j))∧Bl w wr) (fun i _=>256-(intOf i).toNat)
  case atStart=>exact ⟨0,by omega,rfl,hR,hb⟩
  case round=>
    clear hb hR;obtain⟨j,hj,rfl,hRj,hbl⟩:=hrel;by_cases hlt:j<256
    · have hli:(j:Int)<256:=by omega
      have BJ:=fun w=>BE'.out j w hlt
      have QJ:=fun i w h=>Q2'.out j i w hlt h
      have HJ:=fun w' h=>H'.out j w' hlt h
      generalize B j=Bj at*;generalize TX j=TXj at*;go_wp2_with fail;refine(BJ _).mono ?_;rintro e w3 ⟨rfl,b1⟩;have hal:=balc w3 (Obj.cells #[.iface 155 (.string Bj)] 243);replace hbl:=hbl.tr b1;replace hbl:=hbl.tr hal;clear BJ b1 hal;go_wp2_with fail;refine(QJ _ _ (heap_alloc_new w3 _)).mono ?_;rintro e w4 ⟨rfl,b1⟩;replace hbl:=hbl.tr b1;clear QJ b1;go_wp2_with fail;refine(TG _).mono ?_;rintro e w5 ⟨rfl,b1⟩;replace hbl:=hbl.tr b1;clear b1;go_wp2_with fail;refine(HJ _ hbl).mono ?_;rintro e w6 ⟨rfl,b1⟩;have hal:=balc w6 (Obj.cells #[int u64 ((f j:Nat):Int)] 140);have r12:RN (w6.alloc (.cells #[int u64 ((f j:Nat):Int)] 140)) w6.heap.size ((f j:Nat):Int):=heap_alloc_new w6 _;replace hbl:=hbl.tr b1;replace hbl:=hbl.tr hal;clear HJ b1 hal;have c0:=r12.cell;by_cases hz:f j=0
      · have hz':(((f j:Nat):Int) !=0)=false:=by simp [hz]
        have hRn:Hid (R=dkR f (j+1) (256-(j+1))):=by unfold Hid;rw [hRj.out,dkR_step hlt hz]
        clear hRj hz;go_wp2;go_roundw
        case rel=>
          first
            |exact ⟨j+1,by omega,by go_num,hRn,hbl⟩
            |((repeat apply Exists.intro);exact⟨⟨j+1,by omega,by go_num,hRn,hbl⟩,rfl⟩)
        case measure=>simp [intOf];omega
      · have hz':(((f j:Nat):Int) !=0)=true:=by simp;omega
        have hRn:R=(f j,0):=by rw [hRj.out,dkR_hit hlt hz]
        clear hRj hz;subst hRn;have hV':V= .nilIface:=by rw [hV.out];rfl
        subst hV';go_wp2;go_ret2;exact⟨rfl,hbl⟩
    · obtain rfl:j=256:=by omega
      have hRn:R=(0,3):=by rw [hRj.out];rfl
      clear hRj;subst hRn;have hV':V=flt ⟨#[107,101,121]⟩ (sen a2):=by rw [hV.out,if_neg (by decide)]
      subst hV';have g2:=(hs.keep hbl).c2;clear hV;unfold flt sen at*;go_wp2;go_quiet (fail);go_wp2;go_ret2;exact⟨rfl,bel_dr hbl _⟩
end
theorem dkS_any (mode:Int)(seed info:ByteArray)(w:World):
    Cr 16 #[.int .i64 mode,.string seed,.string info] w (.tuple #[int u64 ((dkV mode seed info).1:Nat),.int .i64 (dkV mode seed info).2]):=by
  unfold dkV
  cases h:dkB mode seed info with
  | false=>
    rw [if_neg (by decide)];exact dkS_bad mode seed info w h
  | true=>
    rw [if_pos rfl];unfold dkB at h;obtain⟨⟨m1,m2⟩,hs,hi⟩:=of_decide_eq_true h;exact dkS_yes mode seed info w m1 m2 hs hi
theorem beTo1 (j:Nat)(h:j<256):beTo (j:Int) 1= [(j:Int)]:=by
  simp only [beTo];simp;omega
theorem wthZ (t s:ByteArray)(i:Nat)(w:World)(h:t.size≤200000)(hs:s.size≤65535)(hr:w.heap[i]? =some (.cells #[.iface 156 (.string s)] 243)):
    Cr 105 #[.string t,.slice (some ⟨i,0,none⟩) 1 1] w (.string (t++sizB s)):=by
  have:=with_blk t [(.iface 156 (.string s),sizB s)] i 1 _ _ w hr rfl rfl (by omega) (by
    intro vs hvs;simp only [List.mem_cons,List.not_mem_nil,or_false] at hvs;subst hvs
    exact writZ s hs) (by
      show(t++sizB s).size≤_
      rw [ByteArray.size_append,sizB_size];omega)
  exact this
theorem wthP (t s:ByteArray)(i:Nat)(w:World)(h:t.size≤200000)(hs:s.size≤65535)(hr:w.heap[i]? =some (.cells #[.iface 155 (.string s)] 243)):
    Cr 105 #[.string t,.slice (some ⟨i,0,none⟩) 1 1] w (.string (t++s)):=by
  have:=with_blk t [(.iface 155 (.string s),s)] i 1 _ _ w hr rfl rfl (by omega) (by
    intro vs hvs;simp only [List.mem_cons,List.not_mem_nil,or_false] at hvs;subst hvs
    exact writP s) (by
      show(t++s).size≤_
      rw [ByteArray.size_append];omega)
  exact this
theorem drvI (mode:Int)(seed info:ByteArray)(a0 a2:Addr)(w:World)(hT:TabK w)(hs:So w a0 a2)(hm:0≤mode∧mode≤2)(h1:seed.size=32)(h2:info.size≤60000):
    Cr 57 #[.int .i64 mode,.string seed,.string info] w (.tuple #[int u64 ((dkR (dkN mode.toNat seed info) 0 256).1:Nat),if (dkR (dkN mode.toNat seed info) 0 256).2=0 then .nilIface else flt ⟨#[107,101,121]⟩ (sen a2)]):=by
  have hgw:6<w.heap.size:=World.block_lt_of_cell? w _ (hT 0 (by omega));obtain⟨hk,hk'⟩:=dk_mod hm.1 hm.2;have C:=fun w=>ctxI_yes mode.toNat w hk
  rw [hk'] at C;have h1':((seed.size:Int) !=32)=false:=by simp [h1]
  have hz:=sizB_size info;have hT1:(seed++sizB info).size≤200000:=by rw [ByteArray.size_append];omega
  have TG:=fun w=>tagI_any (ctxB mode.toNat) dkW w (by rw [ctxB_size _ hk];omega) (by decide)
  rw [←tagB_ctx] at TG;have hzt:=dkT_size _ hk
  have hD:=dkO_run mode seed info (ctxB mode.toNat) a0 a2 w hs C (dkN mode.toNat seed info) (seed++sizB info) (tagB dkW mode.toNat) (fun j=>strOfNums [(j:Int)]) (fun j=>dkM seed info j) h1' (by omega)
    (fun i w hr=>wthZ seed info i w (by omega) (by omega) hr)
    (fun j w hj=>by
      have:=beI_any (j:Int) 1 w (by omega) (by omega) (by omega) (by omega)
      rwa [beTo1 j hj] at this)
    (fun j i w hj hr=>wthP (seed++sizB info) (strOfNums [(j:Int)]) i w hT1 (by rw [strOfNums_size];simp) hr)
    TG
    (fun j w' hj hb=>h2sN_yes (dkM seed info j) (tagB dkW mode.toNat) w' (fun i hi=>(hb.cell (p:=⟨6,i,none⟩) hgw).trans (hT i hi)) ⟨by omega,by omega,by rw [dkM_size];omega⟩)
  exact hD
end Go.Proofs.YtjhbckngdclleaaGreatDoor
