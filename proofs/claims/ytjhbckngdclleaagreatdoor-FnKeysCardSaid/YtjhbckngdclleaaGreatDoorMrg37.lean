import Derived.Test.YtjhbckngdclleaaGreatDoorMrg24
import Derived.Test.YtjhbckngdclleaaGreatDoorMrg36
set_option linter.unusedVariables false
set_option maxRecDepth 100000
set_option maxHeartbeats 16000000
namespace Go.Proofs.YtjhbckngdclleaaGreatDoor
open Go.Proofs.Tryz Go.RowKit
open Go.Value (int)
open Go.IntKind (u64)
section
open M
end
theorem cf_dkS_l5Sized (args:Array Value)(w:World):(callFunc 46 args).run prog w= .ok (.enter 46 args) w:=by kernel_rfl
theorem cf_spec_l5Tag (args:Array Value)(w:World):(callFunc 55 args).run prog w= .ok (.enter 55 args) w:=by kernel_rfl
theorem cf_spec_HashToScalar (args:Array Value)(w:World):(callFunc 54 args).run prog w= .ok (.enter 54 args) w:=by kernel_rfl
section
variable {A:Act}{w:World}{dst:Option Tmp}{ty:TypeId}{ps:String}{af:Array Edge}{gd:Option (Nat×Bool)}{x y:Operand}{b i:Nat}
theorem dkx0 {u v:Value}(hx:A.eval x= .tuple #[u,v]):Does prog (Opr dst (.extract x 0) ty ps af gd) A w fun v' w'=>v'=u∧Bl w w':=dv (by generalize A.eval=ev at*;simp [execOp,hx,go_sem])
theorem dkx1 {u v:Value}(hx:A.eval x= .tuple #[u,v]):Does prog (Opr dst (.extract x 1) ty ps af gd) A w fun v' w'=>v'=v∧Bl w w':=dv (by generalize A.eval=ev at*;simp [execOp,hx,go_sem])
theorem dkc8 {n m:Int}(hx:A.eval x= .int .i64 n)(hm:IntKind.u8.wrap n=m):Does prog (Opr dst (.convert 3 5 x) ty ps af gd) A w fun v' w'=>v'= .int .u8 m∧Bl w w':=
  does_value (execS_c8 hx hm) ⟨rfl,Below.refl _ _⟩
theorem dksl {a:Int}(hx:A.eval x= .int .u8 a):Does prog (Opr dst (.buildSlice 35 1 #[(0,x)]) ty ps af gd) A w fun v w'=>v= .slice (some ⟨w.heap.size,0,none⟩) 1 1∧w'=w.alloc (.cells #[.int .u8 a] 5):=
  does_value (execS_slc1 hx) ⟨rfl,rfl⟩
theorem dkcv {a : Int} (hx : A.eval x = .slice (some ⟨b, 0, none⟩) 1 1)(hr:w.heap[b]? =some (.cells #[.int .u8 a] 5)):Does prog (Opr dst (.convert 35 9 x) ty ps af gd) A w fun v' w'=>v'= .string (strOfNums [a])∧Bl w w':=
  does_value (execS_conv (n := 1) (xs := [a]) hx rfl (fun i hi => by obtain rfl:i=0:=by omega
                                                                     simp [World.cell?,hr,lk])) ⟨rfl,Below.refl _ _⟩
end
theorem dkS_bad (mode:Int)(seed info:ByteArray)(w:World)(h:dkB mode seed info=false):
    Cr 16 #[.int .i64 mode,.string seed,.string info] w (.tuple #[int u64 0,.int .i64 1]):=by
  unfold dkB at h;rw [decide_eq_false_iff_not] at h;by_cases hm:0≤mode∧mode≤2
  · have M:=fun w=>modS_yes mode w hm.1 hm.2
    by_cases hs:(seed.size:Int)=32
    · have hi:(60000:Int)<(info.size:Int):=by omega
      have hs':((seed.size:Int) !=32)=false:=by simpa using hs
      clear h hm hs;go_enter func16,ntmps16;go_wp2_with fail;refine(M _).mono ?_;rintro e w1 ⟨rfl,rfl⟩;go_wp2;go_ret2;exact⟨rfl,Below.refl _ _⟩
    · have hs':((seed.size:Int) !=32)=true:=by simpa using hs
      clear h hm hs;go_enter func16,ntmps16;go_wp2_with fail;refine(M _).mono ?_;rintro e w1 ⟨rfl,rfl⟩;go_wp2;go_ret2;exact⟨rfl,Below.refl _ _⟩
  · have M:=fun w=>modS_no mode w hm
    clear h hm;go_enter func16,ntmps16;go_wp2_with fail;refine(M _).mono ?_;rintro e w1 ⟨rfl,rfl⟩;go_wp2;go_ret2;exact⟨rfl,Below.refl _ _⟩
theorem dkS_yes (mode:Int)(seed info:ByteArray)(w:World)(m1:0≤mode)(m2:mode≤2)(hs:seed.size=32)(hi:info.size≤60000):
    Cr 16 #[.int .i64 mode,.string seed,.string info] w (.tuple #[int u64 ((dkR (dkN mode.toNat seed info) 0 256).1:Nat),.int .i64 (dkR (dkN mode.toNat seed info) 0 256).2]):=by
  obtain⟨hm,hm'⟩:=dk_mod m1 m2;have M:=fun w=>modS_yes mode w m1 m2
  have S:=fun w=>sizS_any info w (by omega)
  have TG:=fun w=>tagS_any dkW mode.toNat w hm (by decide)
  rw [hm'] at TG;have hzt:=dkT_size _ hm;have H:∀(j:Nat) (w:World),Cr 54 #[.string (dkM seed info j),.string (tagB dkW mode.toNat)] w (.tuple #[int u64 (dkN mode.toNat seed info j:Nat),.bool true]):=fun j w=>h2sS_yes (dkM seed info j) (tagB dkW mode.toNat) w ⟨by omega,by omega,by rw [dkM_size];omega⟩
  have hzs:=sizB_sz info;obtain⟨f,hf⟩:∃f,f=dkN mode.toNat seed info:=⟨_,rfl⟩;obtain⟨R,hR⟩:∃R,Hid (R=dkR f 0 256):=⟨_,rfl⟩;rw [←hf] at H⊢;rw [←hR.out];unfold dkM dkW at*;generalize tagB _ mode.toNat=tg at*;generalize sizB info=Z at*;have q1:seed.size+Z.size≤9223372036854775807:=by omega
  have q2:∀j:Nat,(seed++Z).size+(strOfNums [(j:Int)]).size≤9223372036854775807:=fun j=>by
    rw [ByteArray.size_append,strOfNums_size];simp only [List.length_cons,List.length_nil];omega
  have hs':((seed.size:Int) !=32)=false:=by simp [hs]
  have hi': ¬ (60000:Int)<(info.size:Int):=by omega
  have q2':Hid (∀j:Nat,(seed++Z).size+(strOfNums [(j:Int)]).size≤9223372036854775807):=q2;have H':Hid (∀(j:Nat) (w:World),Cr 54 #[.string (seed++Z++strOfNums [(j:Int)]),.string tg] w (.tuple #[int u64 (f j:Nat),.bool true])):=H;clear hf hzt hzs hm hm' m1 m2 hs hi q2 H;go_enter func16,ntmps16;go_wp2_with fail;refine(M _).mono ?_;rintro e w1 ⟨rfl,rfl⟩;clear M;go_wp2
  go_loopw [8] (fun iv wr=>∃j:Nat,j≤256∧iv= .int .i64 (j:Int)∧Hid (R=dkR f j (256-j))∧Bl w wr) (fun i _=>256-(intOf i).toNat)
  case atStart=>exact ⟨0,by omega,rfl,hR,Below.refl _ _⟩
  case round=>
    obtain⟨j,hj,rfl,hRj,hbl⟩:=hrel;clear hR;by_cases hlt:j<256
    · have hli:(j:Int)<256:=by omega
      have e8:IntKind.u8.wrap (j:Int)=(j:Int):=u8_in _ (by omega) (by omega);have HJ:=H'.out j;have qj:=q2'.out j;go_wp2
      refine G.pool_list (W:=wr) [] [.val (.string seed),
          .val (.string info),
          .val (.string Z),
          .val (.string (seed++Z)),
          .val (.int .i64 (j:Int)),
          .val (.int .u8 (j:Int)),
          .new (.cells #[.int .u8 (j:Int)] 5) (.cells #[.int .u8 (j:Int)] 5) 1001,
          .val (.string (strOfNums [(j:Int)])),
          .val (.string (seed++Z++strOfNums [(j:Int)])),
          .val (.int .i64 mode),
          .val (.string tg),
          .val (.tuple #[int u64 ((f j:Nat):Int),.bool true]),
          .val (.tuple #[int u64 ((f j:Nat):Int),.bool true]),
          .val (int u64 ((f j:Nat):Int)),
          .val (.bool true),
          .val (int u64 ((f j:Nat):Int)),
          .val (.bool true)] [[1],[2],[30],[29,31],[8],[33],[34],[35],[32,36],[0],[38],[37,39],[40],[28],[28],[41],[42]] (fun fr=> [(some 29,.string seed),(some 30,.string info),(some 31,.string Z),(some 32,.string (seed++Z)),(some 33,.int .i64 (j:Int)),(some 34,.int .u8 (j:Int)),(some 35,.slice (some ⟨fr 6,0,none⟩) 1 1),(some 36,.string (strOfNums [(j:Int)])),(some 37,.string (seed++Z++strOfNums [(j:Int)])),(some 38,.int .i64 mode),(some 39,.string tg),(some 40,.tuple #[int u64 ((f j:Nat):Int),.bool true]),(some 28,.tuple #[int u64 ((f j:Nat):Int),.bool true]),(some 41,int u64 ((f j:Nat):Int)),(some 42,.bool true),(some 9,int u64 ((f j:Nat):Int)),(some 10,.bool true)]) (by kernel_rfl) (by kernel_rfl) (by kernel_rfl) (by kernel_rfl) (fun _=>by kernel_rfl) (G.last_of [.cells #[.int .u8 (j:Int)] 5] (fun F R hm=>by simp at hm) (fun ob ob' k hm=>by simp at hm;simp [hm]) (fun b ob ob' hm=>by simp at hm)) (fun b ob ob' hm=>by simp at hm) ?_ ?_
      · intro ix hix
        match ix,hix with
        |0,_=>exact G.obv [(1,.string seed)] rfl rfl (fun A w ⟨e0,_⟩ hB=>doS_move e0)
        |1,_=>exact G.obv [(2,.string info)] rfl rfl (fun A w ⟨e0,_⟩ hB=>doS_move e0)
        |2,_=>exact G.obv [(30,.string info)] rfl rfl (fun A w ⟨e0,_⟩ hB=>doS_call1 cf_dkS_l5Sized e0 (S w))
        |3,_=>exact G.obv [(29,.string seed),(31,.string Z)] rfl rfl (fun A w ⟨e0,e1,_⟩ hB=>doS_cat e0 e1 q1)
        |4,_=>exact G.obv [(8,.int .i64 (j:Int))] rfl rfl (fun A w ⟨e0,_⟩ hB=>doS_move e0)
        |5,_=>exact G.obv [(33,.int .i64 (j:Int))] rfl rfl (fun A w ⟨e0,_⟩ hB=>dkc8 e0 e8)
        |6,_=>exact G.ob_slc 1 [(34,.int .u8 (j:Int))] rfl rfl (fun _=>by kernel_rfl) (fun A w ⟨e0,_⟩=>dksl e0)
        |7,_=>exact G.ob_use 35 6 1001 (.cells #[.int .u8 (j:Int)] 5) (fun fr=> [(35,.slice (some ⟨fr 6,0,none⟩) 1 1)]) rfl rfl (by decide) (by kernel_rfl) rfl (fun _=>by kernel_rfl) (fun fr A w ⟨e0,_⟩ hB hr=>dkcv e0 hr)
        |8,_=>exact G.obv [(32,.string (seed++Z)),(36,.string (strOfNums [(j:Int)]))] rfl rfl (fun A w ⟨e0,e1,_⟩ hB=>doS_cat e0 e1 qj)
        |9,_=>exact G.obv [(0,.int .i64 mode)] rfl rfl (fun A w ⟨e0,_⟩ hB=>doS_move e0)
        |10,_=>exact G.obv [(38,.int .i64 mode)] rfl rfl (fun A w ⟨e0,_⟩ hB=>doS_call2 cf_spec_l5Tag rfl e0 (TG w))
        |11,_=>exact G.obv [(37,.string (seed++Z++strOfNums [(j:Int)])),(39,.string tg)] rfl rfl (fun A w ⟨e0,e1,_⟩ hB=>doS_call2 cf_spec_HashToScalar e0 e1 (HJ w))
        |12,_=>exact G.obv [(40,.tuple #[int u64 ((f j:Nat):Int),.bool true])] rfl rfl (fun A w ⟨e0,_⟩ hB=>doS_move e0)
        |13,_=>exact G.obv [(28,.tuple #[int u64 ((f j:Nat):Int),.bool true])] rfl rfl (fun A w ⟨e0,_⟩ hB=>dkx0 e0)
        |14,_=>exact G.obv [(28,.tuple #[int u64 ((f j:Nat):Int),.bool true])] rfl rfl (fun A w ⟨e0,_⟩ hB=>dkx1 e0)
        |15,_=>exact G.obv [(41,int u64 ((f j:Nat):Int))] rfl rfl (fun A w ⟨e0,_⟩ hB=>doS_assign e0)
        |16,_=>exact G.obv [(42,.bool true)] rfl rfl (fun A w ⟨e0,_⟩ hB=>doS_assign e0)
        |ix+17,h=>exact absurd h (by simp)
      intro fr W3 hS _ _ _ _;have b3:Bl wr W3:=(Below.refl _ wr).drew.trans hS.below;replace hbl:=hbl.tr b3;clear hS b3 HJ qj;simp only [puts,List.foldl,Act.put,List.setIfInBounds_toArray,List.set_cons_zero,List.set_cons_succ];by_cases hz:f j=0
      · have hz':(((f j:Nat):Int) !=0)=false:=by simp [hz]
        have hRn:Hid (R=dkR f (j+1) (256-(j+1))):=by unfold Hid;rw [hRj.out,dkR_step hlt hz]
        clear hRj hz;go_wp2;go_roundw
        case rel=>
          first
            |exact ⟨j+1,by omega,by go_num,hRn,hbl⟩
            |((repeat apply Exists.intro);exact⟨⟨j+1,by omega,by go_num,hRn,hbl⟩,rfl⟩)
        case measure=>simp [intOf];omega
      · have hz':(((f j:Nat):Int) !=0)=true:=by simp;omega
        have hRn:R=(f j,0):=by rw [hRj.out,dkR_hit hlt hz]
        clear hRj hz;subst hRn;go_wp2;go_ret2;exact⟨rfl,hbl⟩
    · obtain rfl:j=256:=by omega
      have hRn:R=(0,3):=by rw [hRj.out];rfl
      clear hRj;subst hRn;go_wp2;go_ret2;exact⟨rfl,hbl⟩
def ctxB (k:Nat):ByteArray:=⟨#[84,79,89,80,82,70,45]⟩++(⟨#[48,49,50]⟩:ByteArray).extract k (k+1)++⟨#[45,77,54,49]⟩
theorem tagB_ctx (word:ByteArray)(k:Nat):tagB word k=word++ctxB k:=by
  unfold tagB ctxB;rw [←ByteArray.append_assoc,←ByteArray.append_assoc]
theorem ctxB_size (k:Nat)(h:k<3):(ctxB k).size=12:=by
  rcases(show k=0∨k=1∨k=2 by omega) with rfl|rfl|rfl<;>rfl
theorem smlI (k:Nat)(w:World)(hk:k<3):
    Calls prog 234 #[.int .i64 k] w fun e w'=>e= .returned (.string ((⟨#[48,49,50]⟩:ByteArray).extract k (k+1)))∧w=w':=by
  rcases(show k=0∨k=1∨k=2 by omega) with rfl|rfl|rfl
  · go_enter func234,ntmps234;go_wp2;go_ret;exact⟨congrArg (fun s=>Ending.returned (Value.string s)) (by kernel_rfl),rfl⟩
  · go_enter func234,ntmps234;go_wp2;go_ret;exact⟨congrArg (fun s=>Ending.returned (Value.string s)) (by kernel_rfl),rfl⟩
  · go_enter func234,ntmps234;go_wp2;go_ret;exact⟨congrArg (fun s=>Ending.returned (Value.string s)) (by kernel_rfl),rfl⟩
theorem fmtI_of (k:Int)(s:ByteArray)(w:World)(h0:0≤k)(h1:k<100)
    (L:∀w,Calls prog 234 #[.int .i64 k] w fun e w'=>e= .returned (.string s)∧w=w'):
    Calls prog 226 #[.int .i64 k,.int .i64 10] w fun e w'=>e= .returned (.string s)∧w=w':=by
  go_enter func226,ntmps226;go_wp2_with fail;refine(L _).mono ?_;rintro e w1 ⟨rfl,rfl⟩;go_wp2;go_ret;exact⟨rfl,rfl⟩
theorem itoI_of (k:Int)(s:ByteArray)(w:World)
    (L:∀w,Calls prog 226 #[.int .i64 k,.int .i64 10] w fun e w'=>e= .returned (.string s)∧w=w'):
    Calls prog 194 #[.int .i64 k] w fun e w'=>e= .returned (.string s)∧w=w':=by
  go_enter func194,ntmps194;go_wp2_with fail;refine(L _).mono ?_;rintro e w1 ⟨rfl,rfl⟩;go_wp2;go_ret;exact⟨rfl,rfl⟩
theorem itoP_of (k:Int)(s:ByteArray)(w:World)
    (L:∀w,Calls prog 194 #[.int .i64 k] w fun e w'=>e= .returned (.string s)∧w=w'):
    Calls prog 162 #[.int .i64 k] w fun e w'=>e= .returned (.string s)∧w=w':=by
  go_enter func162,ntmps162;go_wp2_with fail;refine(L _).mono ?_;rintro e w1 ⟨rfl,rfl⟩;go_wp2;go_ret;exact⟨rfl,rfl⟩
theorem ctxI_yes (k:Nat)(w:World)(hk:k<3):
    Calls prog 109 #[.int .i64 k] w fun e w'=>e= .returned (.tuple #[.string (ctxB k),.bool true])∧w=w':=by
  have L:=fun w=>itoP_of k _ w (fun w=>itoI_of k _ w (fun w=>fmtI_of k _ w (by omega) (by omega) (fun w=>smlI k w hk)))
  have hs:((⟨#[48,49,50]⟩:ByteArray).extract k (k+1)).size=1:=by
    rcases(show k=0∨k=1∨k=2 by omega) with rfl|rfl|rfl<;>rfl
  unfold ctxB;generalize (⟨#[48,49,50]⟩:ByteArray).extract k (k+1)=D at*;have g1: ¬ (k:Int)<0:=by omega
  have g2: ¬ (3:Int)≤(k:Int):=by omega
  have q1: ¬ (9223372036854775807<(ByteArray.mk #[84,79,89,80,82,70,45]).size+D.size):=by rw [hs];decide
  have q2: ¬ (9223372036854775807<(ByteArray.mk #[84,79,89,80,82,70,45]++D).size+(ByteArray.mk #[45,77,54,49]).size):=by rw [ByteArray.size_append,hs];decide
  go_enter func109,ntmps109;go_wp2_with fail;refine(L _).mono ?_;rintro e w1 ⟨rfl,rfl⟩;clear L hk;go_wp2;go_ret2;exact⟨rfl,rfl⟩
theorem ctxI_no (k:Int)(w:World)(hk: ¬ (0≤k∧k≤2)):
    Calls prog 109 #[.int .i64 k] w fun e w'=>e= .returned (.tuple #[.string ⟨#[]⟩,.bool false])∧w=w':=by
  by_cases h0:k<0
  · clear hk;go_enter func109,ntmps109;go_wp2;go_ret2;exact⟨rfl,rfl⟩
  · have g2:(3:Int)≤k:=by omega
    clear hk;go_enter func109,ntmps109;go_wp2;go_ret2;exact⟨rfl,rfl⟩
theorem tagI_any (c word:ByteArray)(w:World)(h1:c.size≤1000)(h2:word.size≤1000):
    Cr 112 #[.string c,.string word] w (.string (word++c)):=by
  go_enter func112,ntmps112;go_wp2;go_ret;exact⟨rfl,Below.refl _ _⟩
theorem ansU_ok (s:Int)(w:World):
    Cr 56 #[int u64 s,.nilIface] w (.tuple #[int u64 s,.int .i64 0]):=by
  go_enter func56,ntmps56;go_wp2;go_ret2;exact⟨rfl,Below.refl _ _⟩
theorem ansU_err (s:Int)(v:Value)(c:Int)(a0 a1 a2 a3:Addr)(w:World)(hs:Sn w a0 a1 a2 a3)(hv:Er a0 a1 a2 a3 v c):
    Cr 56 #[int u64 s,v] w (.tuple #[int u64 0,.int .i64 c]):=by
  obtain⟨⟨T,x,rfl⟩,C⟩:=hv;go_enter func56,ntmps56;go_wp2_with fail;refine(C _ hs).mono ?_;rintro e w1 ⟨rfl,b1⟩;go_wp2;go_ret2;exact⟨rfl,b1⟩
theorem bel_dr {n:Nat}{w W:World}(h:Below n w W)(m:Nat):Below n w (W.drewN m):=⟨h.os,h.tape,h.output,h.size,h.block⟩
section
variable (mode:Int)(seed info cx:ByteArray)(a0 a1 a2 a3:Addr)(w:World)(hs:Sn w a0 a1 a2 a3)
include hs
theorem dkI_mode (C:∀w,Calls prog 109 #[.int .i64 mode] w fun e w'=>e= .returned (.tuple #[.string cx,.bool false])∧w=w'):
    Cr 57 #[.int .i64 mode,.string seed,.string info] w (.tuple #[int u64 0,flt ⟨#[109,111,100,101]⟩ (sen a0)]):=by
  have g0:=hs.c0;unfold flt sen at*;go_enter func57,ntmps57;go_wp2_with fail;refine(C _).mono ?_;rintro e w1 ⟨rfl,rfl⟩;clear C;go_wp2;go_quiet (fail);go_wp2;go_ret2;exact⟨rfl,bel_dr (Below.refl _ _) _⟩
variable (C:∀w,Calls prog 109 #[.int .i64 mode] w fun e w'=>e= .returned (.tuple #[.string cx,.bool true])∧w=w')
include C
theorem dkI_seed (hz:((seed.size:Int) !=32)=true):
    Cr 57 #[.int .i64 mode,.string seed,.string info] w (.tuple #[int u64 0,flt ⟨#[115,101,101,100]⟩ (sen a0)]):=by
  have g0:=hs.c0;unfold flt sen at*;go_enter func57,ntmps57;go_wp2_with fail;refine(C _).mono ?_;rintro e w1 ⟨rfl,rfl⟩;clear C;go_wp2;go_quiet (fail);go_wp2;go_ret2;exact⟨rfl,bel_dr (Below.refl _ _) _⟩
theorem dkI_info (hz:((seed.size:Int) !=32)=false)(hi:(60000:Int)<(info.size:Int)):
    Cr 57 #[.int .i64 mode,.string seed,.string info] w (.tuple #[int u64 0,flt ⟨#[105,110,102,111]⟩ (sen a0)]):=by
  have g0:=hs.c0;unfold flt sen at*;go_enter func57,ntmps57;go_wp2_with fail;refine(C _).mono ?_;rintro e w1 ⟨rfl,rfl⟩;clear C;go_wp2;go_quiet (fail);go_wp2;go_ret2;exact⟨rfl,bel_dr (Below.refl _ _) _⟩
end
section
variable (mode:Int)(seed info cx:ByteArray)(a0 a2:Addr)(w:World)(hs:So w a0 a2)
include hs
variable (C:∀w,Calls prog 109 #[.int .i64 mode] w fun e w'=>e= .returned (.tuple #[.string cx,.bool true])∧w=w')
include C
theorem dkO_run (f:Nat→Nat)(T1 tg:ByteArray)(B TX:Nat→ByteArray)(hz:((seed.size:Int) !=32)=false)(hi: ¬ (60000:Int)<(info.size:Int))
    (Q1:∀i (w:World),w.heap[i]? =some (.cells #[.iface 156 (.string info)] 243)→Cr 105 #[.string seed,.slice (some ⟨i,0,none⟩) 1 1] w (.string T1))
    (BE:∀(j:Nat) (w:World),j<256→Cr 111 #[int u64 (j:Int),.int .i64 1] w (.string (B j)))
    (Q2:∀(j i:Nat) (w:World),j<256→w.heap[i]? =some (.cells #[.iface 155 (.string (B j))] 243)→Cr 105 #[.string T1,.slice (some ⟨i,0,none⟩) 1 1] w (.string (TX j)))
    (TG:Cc 112 #[.string cx,.string dkW] (.string tg))
    (H:∀(j:Nat) (w':World),j<256→Bl w w'→Cr 110 #[.string (TX j),.string tg] w' (.tuple #[.agg #[int u64 (f j:Nat)],.bool true])):
    Cr 57 #[.int .i64 mode,.string seed,.string info] w (.tuple #[int u64 ((dkR f 0 256).1:Nat),if (dkR f 0 256).2=0 then .nilIface else flt ⟨#[107,101,121]⟩ (sen a2)]):=by
  obtain⟨R,hR⟩:∃R,Hid (R=dkR f 0 256):=⟨_,rfl⟩;rw [←hR.out];obtain⟨V,hV⟩:∃V,Hid (V=(if R.2=0 then Value.nilIface else flt ⟨#[107,101,121]⟩ (sen a2))):=⟨_,rfl⟩;rw [←hV.out];unfold dkW at TG;have BE':Hid (∀(j:Nat) (w:World),j<256→Cr 111 #[int u64 (j:Int),.int .i64 1] w (.string (B j))):=BE;have Q2':Hid (∀(j i:Nat) (w:World),j<256→w.heap[i]? =some (.cells #[.iface 155 (.string (B j))] 243)→Cr 105 #[.string T1,.slice (some ⟨i,0,none⟩) 1 1] w (.string (TX j))):=Q2;have H':Hid (∀(j:Nat) (w':World),j<256→Bl w w'→Cr 110 #[.string (TX j),.string tg] w' (.tuple #[.agg #[int u64 (f j:Nat)],.bool true])):=H;clear BE Q2 H;go_enter func57,ntmps57;go_wp2_with fail;refine(C _).mono ?_;rintro e w1 ⟨rfl,rfl⟩;clear C;have hal:=balc w (Obj.cells #[.iface 156 (.string info)] 243);go_wp2_with fail;refine(Q1 _ _ (heap_alloc_new w _)).mono ?_;rintro e w2 ⟨rfl,b2⟩;have hb:=hal.tr b2;clear Q1 b2 hal;go_wp2
  go_loopw [41] (fun iv wr=>∃j:Nat,j≤256∧iv=int u64 (j:Int)∧Hid (R=dkR f j (256-j))∧Bl w wr) (fun i _=>256-(intOf i).toNat)
  case atStart=>exact ⟨0,by omega,rfl,hR,hb⟩
  case round=>
    clear hb hR;obtain⟨j,hj,rfl,hRj,hbl⟩:=hrel;by_cases hlt:j<256
    · have hli:(j:Int)<256:=by omega
      have BJ:=fun w=>BE'.out j w hlt
      have QJ:=fun i w h=>Q2'.out j i w hlt h
      have HJ:=fun w' h=>H'.out j w' hlt h
      generalize B j=Bj at*;generalize TX j=TXj at*;go_wp2_with fail;refine(BJ _).mono ?_;rintro e w3 ⟨rfl,b1⟩;have hal:=balc w3 (Obj.cells #[.iface 155 (.string Bj)] 243);replace hbl:=hbl.tr b1;replace hbl:=hbl.tr hal;clear BJ b1 hal;go_wp2_with fail;refine(QJ _ _ (heap_alloc_new w3 _)).mono ?_;rintro e w4 ⟨rfl,b1⟩;replace hbl:=hbl.tr b1;clear QJ b1;go_wp2_with fail;refine(TG _).mono ?_;rintro e w5 ⟨rfl,b1⟩;replace hbl:=hbl.tr b1;clear b1;go_wp2_with fail;refine(HJ _ hbl).mono ?_;rintro e w6 ⟨rfl,b1⟩;have hal:=balc w6 (Obj.cells #[int u64 ((f j:Nat):Int)] 140);have r12:RN (w6.alloc (.cells #[int u64 ((f j:Nat):Int)] 140)) w6.heap.size ((f j:Nat):Int):=heap_alloc_new w6 _;replace hbl:=hbl.tr b1;replace hbl:=hbl.tr hal;clear HJ b1 hal;have c0:=r12.cell;by_cases hz:f j=0
      · have hz':(((f j:Nat):Int) !=0)=false:=by simp [hz]
        have hRn:Hid (R=dkR f (j+1) (256-(j+1))):=by unfold Hid;rw [hRj.out,dkR_step hlt hz]
        clear hRj hz;go_wp2;go_roundw
        case rel=>
          first
            |exact ⟨j+1,by omega,by go_num,hRn,hbl⟩
            |((repeat apply Exists.intro);exact⟨⟨j+1,by omega,by go_num,hRn,hbl⟩,rfl⟩)
        case measure=>simp [intOf];omega
      · have hz':(((f j:Nat):Int) !=0)=true:=by simp;omega
        have hRn:R=(f j,0):=by rw [hRj.out,dkR_hit hlt hz]
        clear hRj hz;subst hRn;have hV':V= .nilIface:=by rw [hV.out];rfl
        subst hV';go_wp2;go_ret2;exact⟨rfl,hbl⟩
    · obtain rfl:j=256:=by omega
      have hRn:R=(0,3):=by rw [hRj.out];rfl
      clear hRj;subst hRn;have hV':V=flt ⟨#[107,101,121]⟩ (sen a2):=by rw [hV.out,if_neg (by decide)]
      subst hV';have g2:=(hs.keep hbl).c2;clear hV;unfold flt sen at*;go_wp2;go_quiet (fail);go_wp2;go_ret2;exact⟨rfl,bel_dr hbl _⟩
end
section
variable (mode:Int)(seed info cx:ByteArray)(a0 a1 a2 a3:Addr)(w:World)(hs:Sn w a0 a1 a2 a3)
include hs
variable (C:∀w,Calls prog 109 #[.int .i64 mode] w fun e w'=>e= .returned (.tuple #[.string cx,.bool true])∧w=w')
include C
theorem dkI_run (f:Nat→Nat)(T1 tg:ByteArray)(B TX:Nat→ByteArray)(hz:((seed.size:Int) !=32)=false)(hi: ¬ (60000:Int)<(info.size:Int))
    (Q1:∀i (w:World),w.heap[i]? =some (.cells #[.iface 156 (.string info)] 243)→Cr 105 #[.string seed,.slice (some ⟨i,0,none⟩) 1 1] w (.string T1))
    (BE:∀(j:Nat) (w:World),j<256→Cr 111 #[int u64 (j:Int),.int .i64 1] w (.string (B j)))
    (Q2:∀(j i:Nat) (w:World),j<256→w.heap[i]? =some (.cells #[.iface 155 (.string (B j))] 243)→Cr 105 #[.string T1,.slice (some ⟨i,0,none⟩) 1 1] w (.string (TX j)))
    (TG:Cc 112 #[.string cx,.string dkW] (.string tg))
    (H:∀(j:Nat) (w':World),j<256→Bl w w'→Cr 110 #[.string (TX j),.string tg] w' (.tuple #[.agg #[int u64 (f j:Nat)],.bool true])):
    Cr 57 #[.int .i64 mode,.string seed,.string info] w (.tuple #[int u64 ((dkR f 0 256).1:Nat),if (dkR f 0 256).2=0 then .nilIface else flt ⟨#[107,101,121]⟩ (sen a2)]):=
  dkO_run mode seed info cx a0 a2 w hs.so C f T1 tg B TX hz hi Q1 BE Q2 TG H
end
end Go.Proofs.YtjhbckngdclleaaGreatDoor
