import Derived.Test.YtjhbckngdclleaaGreatDoorMrg37
set_option linter.unusedVariables false
set_option maxRecDepth 100000
set_option maxHeartbeats 16000000
namespace Go.Proofs.YtjhbckngdclleaaGreatDoor
open Go.Proofs.Tryz Go.RowKit
open Go.Value (int)
open Go.IntKind (u64)
theorem dkS_any (mode:Int)(seed info:ByteArray)(w:World):
    Cr 16 #[.int .i64 mode,.string seed,.string info] w (.tuple #[int u64 ((dkV mode seed info).1:Nat),.int .i64 (dkV mode seed info).2]):=by
  unfold dkV
  cases h:dkB mode seed info with
  | false=>
    rw [if_neg (by decide)];exact dkS_bad mode seed info w h
  | true=>
    rw [if_pos rfl];unfold dkB at h;obtain⟨⟨m1,m2⟩,hs,hi⟩:=of_decide_eq_true h;exact dkS_yes mode seed info w m1 m2 hs hi
theorem dkI_of (mode k k' c:Int)(seed info:ByteArray)(v:Value)(w:World)
    (HD:Cr 57 #[.int .i64 mode,.string seed,.string info] w (.tuple #[int u64 k,v]))
    (AN:Cb w 56 #[int u64 k,v] (.tuple #[int u64 k',.int .i64 c])):
    Cr 17 #[.int .i64 mode,.string seed,.string info] w (.tuple #[int u64 k',.int .i64 c]):=by
  go_enter func17,ntmps17;go_wp2_with fail;refine HD.mono ?_;rintro e w1 ⟨rfl,b1⟩;go_wp2_with fail;refine(AN _ b1).mono ?_;rintro e w2 ⟨rfl,b2⟩;replace b1:=b1.tr b2;clear HD AN b2;go_wp2;go_ret2;exact⟨rfl,b1⟩
theorem beTo1 (j:Nat)(h:j<256):beTo (j:Int) 1= [(j:Int)]:=by
  simp only [beTo];simp;omega
theorem dkR_code (f:Nat→Nat):∀(n i:Nat),(dkR f i n).2=0∨dkR f i n=(0,3)
  |0,_=> .inr rfl
  | n+1,i=>by
    show(if f i=0 then dkR f (i+1) n else (f i,0)).2=0∨(if f i=0 then dkR f (i+1) n else (f i,0))=(0,3);by_cases h:f i=0
    · rw [if_pos h];exact dkR_code f n (i+1)
    · rw [if_neg h];exact .inl rfl
theorem wthZ (t s:ByteArray)(i:Nat)(w:World)(h:t.size≤200000)(hs:s.size≤65535)(hr:w.heap[i]? =some (.cells #[.iface 156 (.string s)] 243)):
    Cr 105 #[.string t,.slice (some ⟨i,0,none⟩) 1 1] w (.string (t++sizB s)):=by
  have:=with_blk t [(.iface 156 (.string s),sizB s)] i 1 _ _ w hr rfl rfl (by omega) (by
    intro vs hvs;simp only [List.mem_cons,List.not_mem_nil,or_false] at hvs;subst hvs
    exact writZ s hs) (by
      show(t++sizB s).size≤_
      rw [ByteArray.size_append,sizB_size];omega)
  exact this
theorem wthP (t s:ByteArray)(i:Nat)(w:World)(h:t.size≤200000)(hs:s.size≤65535)(hr:w.heap[i]? =some (.cells #[.iface 155 (.string s)] 243)):
    Cr 105 #[.string t,.slice (some ⟨i,0,none⟩) 1 1] w (.string (t++s)):=by
  have:=with_blk t [(.iface 155 (.string s),s)] i 1 _ _ w hr rfl rfl (by omega) (by
    intro vs hvs;simp only [List.mem_cons,List.not_mem_nil,or_false] at hvs;subst hvs
    exact writP s) (by
      show(t++s).size≤_
      rw [ByteArray.size_append];omega)
  exact this
theorem dkI_any (mode:Int)(seed info:ByteArray)(a0 a1 a2 a3:Addr)(w:World)(hT:TabK w)(hs:Sn w a0 a1 a2 a3):
    Cr 17 #[.int .i64 mode,.string seed,.string info] w (.tuple #[int u64 ((dkV mode seed info).1:Nat),.int .i64 (dkV mode seed info).2]):=by
  have hgw:6<w.heap.size:=World.block_lt_of_cell? w _ (hT 0 (by omega))
  have bad:∀v,dkB mode seed info=false→Er a0 a1 a2 a3 v 1→Calls prog 57 #[.int .i64 mode,.string seed,.string info] w (fun e w'=>e= .returned (.tuple #[int u64 0,v])∧Bl w w')→
      Cr 17 #[.int .i64 mode,.string seed,.string info] w (.tuple #[int u64 ((dkV mode seed info).1:Nat),.int .i64 (dkV mode seed info).2]):=fun v h hv hD=>by
    have e:dkV mode seed info=(0,1):=by unfold dkV;rw [h];rfl
    rw [e];exact dkI_of mode 0 0 1 seed info v w hD (fun w' hb=>ansU_err 0 v 1 a0 a1 a2 a3 w' (hs.keep hb) hv)
  by_cases hm:0≤mode∧mode≤2
  · obtain⟨hk,hk'⟩:=dk_mod hm.1 hm.2;have C:=fun w=>ctxI_yes mode.toNat w hk
    rw [hk'] at C;by_cases h1:seed.size=32
    · have h1':((seed.size:Int) !=32)=false:=by simp [h1]
      by_cases h2:info.size≤60000
      · have hB:dkB mode seed info=true:=decide_eq_true ⟨hm,h1,h2⟩;have e:dkV mode seed info=dkR (dkN mode.toNat seed info) 0 256:=by unfold dkV;rw [hB];rfl
        rw [e];have hz:=sizB_size info;have hT1:(seed++sizB info).size≤200000:=by rw [ByteArray.size_append];omega
        have TG:=fun w=>tagI_any (ctxB mode.toNat) dkW w (by rw [ctxB_size _ hk];omega) (by decide)
        rw [←tagB_ctx] at TG;have hzt:=dkT_size _ hk
        have hD:=dkI_run mode seed info (ctxB mode.toNat) a0 a1 a2 a3 w hs C (dkN mode.toNat seed info) (seed++sizB info) (tagB dkW mode.toNat) (fun j=>strOfNums [(j:Int)]) (fun j=>dkM seed info j) h1' (by omega)
          (fun i w hr=>wthZ seed info i w (by omega) (by omega) hr)
          (fun j w hj=>by
            have:=beI_any (j:Int) 1 w (by omega) (by omega) (by omega) (by omega)
            rwa [beTo1 j hj] at this)
          (fun j i w hj hr=>wthP (seed++sizB info) (strOfNums [(j:Int)]) i w hT1 (by rw [strOfNums_size];simp) hr)
          TG
          (fun j w' hj hb=>h2sN_yes (dkM seed info j) (tagB dkW mode.toNat) w' (fun i hi=>(hb.cell (p:=⟨6,i,none⟩) hgw).trans (hT i hi)) ⟨by omega,by omega,by rw [dkM_size];omega⟩)
        rcases dkR_code (dkN mode.toNat seed info) 256 0 with hc|hc
        · rw [if_pos hc] at hD;rw [hc];exact dkI_of mode _ _ 0 seed info .nilIface w hD (fun w' hb=>ansU_ok _ w')
        · rw [hc] at hD⊢;rw [if_neg (by decide)] at hD;exact dkI_of mode _ _ 3 seed info _ w hD (fun w' hb=>ansU_err _ _ 3 a0 a1 a2 a3 w' (hs.keep hb) (er_inv _))
      · exact bad _ (decide_eq_false (fun h=>h2 h.2.2)) (er_args _) (dkI_info mode seed info _ a0 a1 a2 a3 w hs C h1' (by omega))
    · exact bad _ (decide_eq_false (fun h=>h1 h.2.1)) (er_args _) (dkI_seed mode seed info _ a0 a1 a2 a3 w hs C (by simp;omega))
  · exact bad _ (decide_eq_false (fun h=>hm h.1)) (er_args _) (dkI_mode mode seed info _ a0 a1 a2 a3 w hs (fun w=>ctxI_no mode w hm))
section
open M
theorem wrdP_none (w:World):
    Cr 122 #[.agg #[int u64 0,int u64 0,.bool true]] w (int u64 0):=by
  have hp:=K3.new w 101 0 0 true;have hb:=balc w (Obj.cells #[int u64 0,int u64 0,.bool true] 101);have c0:=hp.drew.c0;have c1:=hp.drew.c1;have c2:=hp.drew.c2;go_enter func122,ntmps122;go_wp2
  go_region_held3 (fun w'=>w'.cell? ⟨w.heap.size,0,none⟩=some (int u64 0)∧w'.cell? ⟨w.heap.size,1,none⟩=some (int u64 0)∧w'.cell? ⟨w.heap.size,2,none⟩=some (.bool true)) (first|exact ⟨c0,c1,c2⟩|exact ⟨keepC c0 b1,keepC c1 b1,keepC c2 b1⟩|go_keep) ((go_at_call 114;refine(zpP _).mono ?_;rintro e w1 ⟨rfl,b1⟩))
  replace hb:=keepB hb.drew hb.size b1;go_wp2;go_ret;exact⟨rfl,hb⟩
theorem wrdP_some (x y a b c n:Int)(w:World)(h1:IntKind.u64.wrap (x+4611686018427387904)=a)(h2:y.tmod 2=b)(h3:IntKind.u64.wrap (2305843009213693952*b)=c)(h4:IntKind.u64.wrap (a+c)=n):
    Cr 122 #[.agg #[int u64 x,int u64 y,.bool false]] w (int u64 n):=by
  have hp:=K3.new w 101 x y false;have hb:=balc w (Obj.cells #[int u64 x,int u64 y,.bool false] 101);have c0:=hp.drew.c0;have c1:=hp.drew.c1;have c2:=hp.drew.c2;go_enter func122,ntmps122;go_wp2
  go_region_held3 (fun w'=>w'.cell? ⟨w.heap.size,0,none⟩=some (int u64 x)∧w'.cell? ⟨w.heap.size,1,none⟩=some (int u64 y)∧w'.cell? ⟨w.heap.size,2,none⟩=some (.bool false)) (first|exact ⟨c0,c1,c2⟩|exact ⟨keepC c0 b1,keepC c1 b1,keepC c2 b1⟩|go_keep) ((go_at_call 114;refine(zpP _).mono ?_;rintro e w1 ⟨rfl,b1⟩))
  replace hb:=keepB hb.drew hb.size b1;replace hp:=(hp.drew).keep b1;clear c0 c1 c2;have c0:=hp.c0;have c1:=hp.c1;go_wp2;go_ret;exact⟨rfl,hb⟩
theorem wrdV:∀(p:Pt) (w:World),Cr 122 #[ptW p] w (int u64 (putN p:Nat))
  |none,w=>wrdP_none w
  | some (x,y),w=>by
    have hx:=val_lt x
    have hy:(fv y).tmod 2=((y.val%2:Nat):Int):=by
      unfold fv;rw [Int.tmod_eq_emod_of_nonneg (by omega)];omega
    have hz:y.val%2<2:=Nat.mod_lt _ (by decide);refine wrdP_some (fv x) (fv y) (fv x+4611686018427387904) _ (2305843009213693952*((y.val%2:Nat):Int)) _ w ?_ hy ?_ ?_
    · unfold fv;rw [IntKind.wrap_u64];omega
    · rw [IntKind.wrap_u64];omega
    · rw [putN_some];unfold fv;rw [IntKind.wrap_u64];generalize x.val=X at*;generalize y.val%2=Z at*;omega
end
end Go.Proofs.YtjhbckngdclleaaGreatDoor
