import Derived.Test.YtjmhmajfkdglnabGreatDoorMrg22
set_option linter.unusedVariables false
set_option maxRecDepth 100000
set_option maxHeartbeats 16000000
namespace Go.Proofs.YtjmhmajfkdglnabGreatDoor
open Go.Proofs.Tryz Go.RowKit
open Go.Value (int)
open Go.IntKind (u64)
section
open M
section
variable {ev:Operand→Value}{w:World}{dst:Option Tmp}{ty:TypeId}{ps:String}{af:Array Edge}{gd:Option (Nat×Bool)}{x y:Operand}{b i:Nat}{X Y X0 Y0:Int}{c c0:Bool}
theorem execM_storeP (hx:ev x= .pointer (some ⟨b,0,none⟩))(hy:ev y= .agg #[int u64 X,int u64 Y,.bool c])(hr:K3 w 25 b X0 Y0 c0):
    (execOp ev (Opr dst (.store 25 x y) ty ps af gd)).run prog w= .ok .skip (set3 w b X Y c):=by
  have h1:=hr.c0;have h2:=hr.c1;have h3:=hr.c2;have h4:=hr.frz;simp [execOp,hx,hy,h1,h2,h3,h4,go_sem,set3]
theorem execM_idxW {g n cap k:Nat}(hx:ev x= .slice (some ⟨g,0,none⟩) n cap)(hy:ev y= .int .i64 (k:Int))(hk:k<n):
    (execOp ev (Opr dst (.indexAddr 171 x y) ty ps af gd)).run prog w= .ok (.value (.pointer (some ⟨g,k,none⟩))) w:=by
  have h2:(k:Int)<(n:Int):=by omega
  simp [execOp,hx,hy,h2,go_sem]
end
section
variable {A:Act}{w W0:World}{dst:Option Tmp}{ty:TypeId}{ps:String}{af:Array Edge}{gd:Option (Nat×Bool)}{x y:Operand}{b i:Nat}
theorem doS_idx {g n cap k:Nat}(hx:A.eval x= .slice (some ⟨g,0,none⟩) n cap)(hy:A.eval y= .int .i64 (k:Int))(hk:k<n):
    Does prog (Opr dst (.indexAddr 171 x y) ty ps af gd) A w fun v' w'=>v'= .pointer (some ⟨g,k,none⟩)∧Bl w w':=by
  have h:=execM_idxW (ev:=A.eval) (w:=w) (dst:=dst) (ty:=ty) (ps:=ps) (af:=af) (gd:=gd) hx hy hk;exact does_value h ⟨rfl,Below.refl _ _⟩
end
theorem cf_mapS (args:Array Value)(w:World):(callFunc 97 args).run prog w= .ok (.enter 97 args) w:=by kernel_rfl
theorem cf_sum (args:Array Value)(w:World):(callFunc 28 args).run prog w= .ok (.enter 28 args) w:=by kernel_rfl
theorem ptt_res {W:World}{b:Nat}{x y:Int}{c:Bool}{fn:Func}{p u:Tmp}(h:fn.results=#[.cell p 25,.tmp u])(tmps:Array Value)(hp:tmps.getD p undef= .pointer (some ⟨b,0,none⟩))(hc:K3 W 25 b x y c):
    (results fn tmps).run prog W= .ok (.tuple #[.agg #[int u64 x,int u64 y,.bool c],tmps.getD u undef]) W:=by
  have hp':tmps[p]?.getD undef= .pointer (some ⟨b,0,none⟩):=by simpa using hp
  simp [results,h,hp',asAddr,run_loadVar_mid W b 0 25 [int u64 x,int u64 y,.bool c] _ hc.range underlying25 rfl (by kernel_rfl)]
noncomputable def mapP (u:Nat):Pt:=some (mXX (toF u),mYo (toF u))
theorem mapP_on (u:Nat):on (mapP u):=map_on (toF u)
noncomputable def hPt (msg tag:ByteArray):Pt:=ad (mapP (hNum msg tag 2305843009213693951 2 0)) (mapP (hNum msg tag 2305843009213693951 2 1))
theorem h2gS_of (msg tag:ByteArray)(H:List Int)(u0 u1 ax ay dx dy sx sy:Int)(ac dc sc:Bool)(w:World)
    (X:∀w,Calls prog 96 #[.string msg,.string tag,int u64 2305843009213693951,.int .i64 2] w fun e w'=>∃g cap,e= .returned (.tuple #[.slice (some ⟨g,0,none⟩) 2 cap,.bool true])∧Row w' w.heap.size g 2 cap (H.map (Value.int .u64))∧Bl w w')
    (h0:lk H 0=u0)(h1:lk H 1=u1)
    (M0:Cc 97 #[int u64 u0] (.agg #[int u64 ax,int u64 ay,.bool ac]))
    (M1:Cc 97 #[int u64 u1] (.agg #[int u64 dx,int u64 dy,.bool dc]))
    (SU:Cc 28 #[.agg #[int u64 ax,int u64 ay,.bool ac],.agg #[int u64 dx,int u64 dy,.bool dc]] (.agg #[int u64 sx,int u64 sy,.bool sc])):
    Cr 62 #[.string msg,.string tag] w (.tuple #[.agg #[int u64 sx,int u64 sy,.bool sc],.bool true]):=by
  have hr:=K3.new w 25 0 0 false;have hb:=balc w (Obj.cells #[int u64 0,int u64 0,.bool false] 25);go_enter func62,ntmps62;go_wp2_with fail;refine(X _).mono ?_;rintro e W1 ⟨g,cap,rfl,hrow,b1⟩;replace hr:=hr.keep b1;replace hb:=hb.tr b1;have c0:=hrow.drew.cell 0 (by omega);have c1:=hrow.drew.cell 1 (by omega);rw [h0] at c0;rw [h1] at c1;clear X hrow b1;go_wp2
  refine pool_pre 9 [.val (.slice (some ⟨g,0,none⟩) 2 cap),
      .val (.pointer (some ⟨g,0,none⟩)),
      .val (int u64 u0),
      .val (.agg #[int u64 ax,int u64 ay,.bool ac]),
      .val (.slice (some ⟨g,0,none⟩) 2 cap),
      .val (.pointer (some ⟨g,1,none⟩)),
      .val (int u64 u1),
      .val (.agg #[int u64 dx,int u64 dy,.bool dc]),
      .val (.agg #[int u64 sx,int u64 sy,.bool sc])] [[6],[17],[18],[19],[6],[21],[22],[23],[20,24]] (fun f=> [(some 17,.slice (some ⟨g,0,none⟩) 2 cap),(some 18,.pointer (some ⟨g,0,none⟩)),(some 19,int u64 u0),(some 20,.agg #[int u64 ax,int u64 ay,.bool ac]),(some 21,.slice (some ⟨g,0,none⟩) 2 cap),(some 22,.pointer (some ⟨g,1,none⟩)),(some 23,int u64 u1),(some 24,.agg #[int u64 dx,int u64 dy,.bool dc]),(some 25,.agg #[int u64 sx,int u64 sy,.bool sc])]) (by kernel_rfl) (by kernel_rfl) (by kernel_rfl) (by kernel_rfl) (by decide) (by kernel_rfl) (fun _=>by kernel_rfl) ?_ ?_
  · intro ix hix
    match ix,hix with
    |0,_=>exact obv [(6,.slice (some ⟨g,0,none⟩) 2 cap)] rfl rfl (fun A w ⟨e0,_⟩ hB=>doS_move e0)
    |1,_=>exact obv [(17,.slice (some ⟨g,0,none⟩) 2 cap)] rfl rfl (fun A w ⟨e0,_⟩ hB=>doS_idx (k:=0) e0 rfl (by decide))
    |2,_=>exact obv [(18,.pointer (some ⟨g,0,none⟩))] rfl rfl (fun A w ⟨e0,_⟩ hB=>doS_loadW e0 (keepA c0 hB))
    |3,_=>exact obv [(19,int u64 u0)] rfl rfl (fun A w ⟨e0,_⟩ hB=>doS_call1 cf_mapS e0 (M0 w))
    |4,_=>exact obv [(6,.slice (some ⟨g,0,none⟩) 2 cap)] rfl rfl (fun A w ⟨e0,_⟩ hB=>doS_move e0)
    |5,_=>exact obv [(21,.slice (some ⟨g,0,none⟩) 2 cap)] rfl rfl (fun A w ⟨e0,_⟩ hB=>doS_idx (k:=1) e0 rfl (by decide))
    |6,_=>exact obv [(22,.pointer (some ⟨g,1,none⟩))] rfl rfl (fun A w ⟨e0,_⟩ hB=>doS_loadW e0 (keepA c1 hB))
    |7,_=>exact obv [(23,int u64 u1)] rfl rfl (fun A w ⟨e0,_⟩ hB=>doS_call1 cf_mapS e0 (M1 w))
    |8,_=>exact obv [(20,.agg #[int u64 ax,int u64 ay,.bool ac]),(24,.agg #[int u64 dx,int u64 dy,.bool dc])] rfl rfl (fun A w ⟨e0,e1,_⟩ hB=>doS_call2 cf_sum e0 e1 (SU w))
    |ix+9,h=>exact absurd h (by simp)
  intro f w4 hB _ fuel hfuel;replace hr:=hr.drew.keep hB;replace hb:=hb.drew.trans (hB.mono hb.size);simp only [puts,List.foldl,Act.put,List.setIfInBounds_toArray,List.set_cons_zero,List.set_cons_succ];refine last_seq (vq:= .bool true) 9 10 hfuel (by kernel_rfl) (by kernel_rfl) (by kernel_rfl) rfl rfl rfl rfl rfl (some 5) rfl (does_skip (execM_storeP rfl rfl hr) rfl) (fun w=>does_value (execS_assign rfl) ⟨rfl,rfl⟩) ?_;simp only [Act.put,List.setIfInBounds_toArray,List.set_cons_zero,List.set_cons_succ];go_wp2;exact bodyPost_ret (v:= .tuple #[.agg #[int u64 sx,int u64 sy,.bool sc],.bool true]) (ptt_res (fn:=Tryz.f62) (p:=4) (u:=5) results62 _ rfl (hr.set sx sy sc)) rfl ⟨rfl,set3_below hb (Nat.le_refl _)⟩
theorem h2gS_yes (msg tag:ByteArray)(w:World)(h:okT msg tag):
    Cr 62 #[.string msg,.string tag] w (.tuple #[ptW (hPt msg tag),.bool true]):=by
  rw [ptW_eq]
  exact h2gS_of msg tag (h2f (byt msg) (byt tag) 2305843009213693951 2) _ _ _ _ _ _ _ _ _ _ _ w (fun w=>h2fS_yes msg tag 2305843009213693951 2 w (by decide) ((okT_H (by decide) (by decide) (by decide)).1 h))
    (h2f_at msg tag 2305843009213693951 2 0 (by omega)) (h2f_at msg tag 2305843009213693951 2 1 (by omega)) (fun w=>mapS_any _ w) (fun w=>mapS_any _ w) (fun w=>sumS_xyz (mapP _) (mapP _) w)
noncomputable def elT (t:Tri):Bool:=onT t&& !t.2.2
def keyB (k:Nat):Bool:=decide (1≤k∧k<2305843010818082053)
def txtB (mode:Int)(n m:Nat):Bool:=decide ((0≤mode∧mode≤2)∧n≤65535∧m≤60000∧(mode=2∨m=0))
def infW:ByteArray:=⟨#[73,110,102,111]⟩
def grpW:ByteArray:=⟨#[72,97,115,104,84,111,71,114,111,117,112,45]⟩
def finW:ByteArray:=⟨#[70,105,110,97,108,105,122,101]⟩
def twk (info:ByteArray):Nat:=scaN (infW++sizB info) 2
theorem twk_lt (info:ByteArray):twk info<2305843010818082053:=scaN_lt _ _
theorem infoT_size (info:ByteArray):(infW++sizB info).size=info.size+6:=by
  rw [ByteArray.size_append,sizB_size,show infW.size=4 from rfl];omega
noncomputable def hsh (mode:Int) (input:ByteArray):Pt:=hPt input (tagB grpW mode.toNat)
theorem hsh_on (mode:Int)(input:ByteArray):on (hsh mode input):=ad_on (mapP_on _) (mapP_on _)
theorem tagG_size (k:Nat)(h:k<3):(tagB grpW k).size=24:=tagB_size _ k h
def outT (mode:Int)(input info:ByteArray)(u:Pt):ByteArray:=(if mode=2 then sizB input++sizB info else sizB input)++sizB (ptB u)++finW
def outB (mode:Int)(input info:ByteArray)(u:Pt):ByteArray:=strOfNums (shaF (byt (outT mode input info u)))
def kt (key:Nat)(info:ByteArray):Nat:=(key+twk info)%2305843010818082053
theorem kt_lt (key:Nat)(info:ByteArray):kt key info<2305843010818082053:=Nat.mod_lt _ (by decide)
def facC (mode:Int)(key:Nat)(info:ByteArray):Int:=if mode=2∧kt key info=0 then 3 else 0
def facT (mode:Int)(key:Nat)(info:ByteArray):Nat:=if mode=2 then kt key info else key
def facB (mode:Int)(key:Nat)(info:ByteArray):Nat:=if mode=2 then (if kt key info=0 then 0 else M.ivn 2305843010818082053 (kt key info)) else key
noncomputable def dirC (mode:Int) (key:Nat) (input info:ByteArray):Int:=
  if txtB mode input.size info.size=true∧keyB key=true then (if hsh mode input=none then 2 else facC mode key info) else 1
noncomputable def dirO (mode:Int) (key:Nat) (input info:ByteArray):ByteArray:=
  if dirC mode key input info=0 then outB mode input info (nt (facB mode key info) (hsh mode input)) else ⟨#[]⟩
theorem pb_none (p:Pt):pb p=true↔p=none:=by
  rcases p with _|⟨x,y⟩<;>simp [pb]
theorem txtB_iff {mode:Int}{n m:Nat}:txtB mode n m=true↔(0≤mode∧mode≤2)∧n≤65535∧m≤60000∧(mode=2∨m=0):=by unfold txtB;rw [decide_eq_true_eq]
theorem txtB_not {mode:Int}{n m:Nat}(h: ¬ ((0≤mode∧mode≤2)∧n≤65535∧m≤60000∧(mode=2∨m=0))):txtB mode n m=false:=by unfold txtB;rw [decide_eq_false h]
theorem keyB_iff {k:Nat}:keyB k=true↔1≤k∧k<2305843010818082053:=by unfold keyB;rw [decide_eq_true_eq]
theorem md_of {mode:Int}(h1:0≤mode)(h2:mode≤2):mode.toNat<3∧((mode.toNat:Nat):Int)=mode:=by omega
theorem ivn_lt' (m a:Nat)(h:0<m):M.ivn m a<m:=by unfold M.ivn;exact Nat.mod_lt _ h
theorem facB_lt (mode:Int)(key:Nat)(info:ByteArray)(h:key<2305843010818082053):facB mode key info<2305843010818082053:=by
  unfold facB;split
  · split
    · decide
    · exact ivn_lt' _ _ (by decide)
  · exact h
theorem outT_size (mode:Int)(input info:ByteArray)(u:Pt)(h1:input.size≤65535)(h2:info.size≤60000):(outT mode input info u).size≤130000:=by
  unfold outT;split<;>simp only [ByteArray.size_append,sizB_size,ptB_size,show finW.size=8 from rfl]<;>omega
end
theorem modS_yes (mode:Int)(w:World)(h1:0≤mode)(h2:mode≤2):
    Calls prog 61 #[.int .i64 mode] w fun e w'=>e= .returned (.bool true)∧w=w':=by
  go_enter func61,ntmps61;go_wp2;go_ret;exact⟨rfl,rfl⟩
theorem modS_no (mode:Int)(w:World)(h: ¬ (0≤mode∧mode≤2)):
    Calls prog 61 #[.int .i64 mode] w fun e w'=>e= .returned (.bool false)∧w=w':=by
  by_cases h1:0≤mode
  · have h2: ¬ mode≤2:=fun h'=>h ⟨h1,h'⟩
    clear h;go_enter func61,ntmps61;go_wp2;go_ret;exact⟨rfl,rfl⟩
  · clear h;go_enter func61,ntmps61;go_wp2;go_ret;exact⟨rfl,rfl⟩
section
open M
theorem tiS_tri (k:Nat)(t:Tri)(w:World)(hk:k<18446744073709551616):Cr 7 #[int u64 (k:Int),.agg #[int u64 (t.1:Int),int u64 (t.2.1:Int),.bool t.2.2]] w (.agg #[int u64 (px (nt k (asT t))),int u64 (py (nt k (asT t))),.bool (pb (nt k (asT t)))]):=by
  have:=timS_any k t.1 t.2.1 t.2.2 w hk;rwa [ptW_eq] at this
theorem pt_nat {p:Pt}(hp:on p):∃t:Tri,asT t=p∧px p=(t.1:Int)∧py p=(t.2.1:Int)∧pb p=t.2.2∧onT t=true:=by
  rcases p with _|⟨X,Y⟩
  · refine⟨(0,0,true),?_,rfl,rfl,rfl,?_⟩
    · unfold asT asPt toPt;rw [if_pos rfl];rfl
    · unfold onT toPt;rw [if_pos rfl];rfl
  · have h:=toPt_self hp;refine⟨(X.val,Y.val,false),asPt_some h,rfl,rfl,rfl,?_⟩;unfold onT;rw [h];rfl
theorem puS_pt {p:Pt}(hp:on p)(w:World):Cr 65 #[.agg #[int u64 (px p),int u64 (py p),.bool (pb p)]] w (.string (ptB p)):=by
  obtain⟨t,h1,h2,h3,h4,-⟩:=pt_nat hp;rw [h2,h3,h4,←h1];exact putS_any t.1 t.2.1 t.2.2 w
theorem tiS_pt {p:Pt}(hp:on p)(k:Nat)(hk:k<18446744073709551616)(w:World):Cr 7 #[int u64 (k:Int),.agg #[int u64 (px p),int u64 (py p),.bool (pb p)]] w (.agg #[int u64 (px (nt k p)),int u64 (py (nt k p)),.bool (pb (nt k p))]):=by
  obtain⟨t,h1,h2,h3,h4,-⟩:=pt_nat hp;rw [h2,h3,h4];have:=tiS_tri k t w hk;rwa [h1] at this
theorem onS_tri (t:Tri)(w:World):Cr 27 #[.agg #[int u64 (t.1:Int),int u64 (t.2.1:Int),.bool t.2.2]] w (.bool (onT t)):=onS_any t.1 t.2.1 t.2.2 w
end
end Go.Proofs.YtjmhmajfkdglnabGreatDoor
