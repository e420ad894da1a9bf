import Derived.Test.YtmjniccfjffclaaGreatDoorMrg31
set_option linter.unusedVariables false
set_option maxRecDepth 100000
set_option maxHeartbeats 16000000
namespace Go.Proofs.YtmjniccfjffclaaGreatDoor
open Go.Proofs.Tryz Go.RowKit
open Go.Value (int)
open Go.IntKind (u64)
section
open M
theorem wrdP_none (w:World):
    Cr 226 #[.agg #[int u64 0,int u64 0,.bool true]] w (int u64 0):=by
  have hp:=K3.new w 75 0 0 true;have hb:=balc w (Obj.cells #[int u64 0,int u64 0,.bool true] 75);have c0:=hp.drew.c0;have c1:=hp.drew.c1;have c2:=hp.drew.c2;go_enter func226,ntmps226;go_wp2
  go_region_held3 (fun w'=>w'.cell? ⟨w.heap.size,0,none⟩=some (int u64 0)∧w'.cell? ⟨w.heap.size,1,none⟩=some (int u64 0)∧w'.cell? ⟨w.heap.size,2,none⟩=some (.bool true)) (first|exact ⟨c0,c1,c2⟩|exact ⟨keepC c0 b1,keepC c1 b1,keepC c2 b1⟩|go_keep) ((go_at_call 77;refine(zpP _).mono ?_;rintro e w1 ⟨rfl,b1⟩))
  replace hb:=keepB hb.drew hb.size b1;go_wp2;go_ret;exact⟨rfl,hb⟩
theorem wrdP_some (x y a b c n:Int)(w:World)(h1:IntKind.u64.wrap (x+4611686018427387904)=a)(h2:y.tmod 2=b)(h3:IntKind.u64.wrap (2305843009213693952*b)=c)(h4:IntKind.u64.wrap (a+c)=n):
    Cr 226 #[.agg #[int u64 x,int u64 y,.bool false]] w (int u64 n):=by
  have hp:=K3.new w 75 x y false;have hb:=balc w (Obj.cells #[int u64 x,int u64 y,.bool false] 75);have c0:=hp.drew.c0;have c1:=hp.drew.c1;have c2:=hp.drew.c2;go_enter func226,ntmps226;go_wp2
  go_region_held3 (fun w'=>w'.cell? ⟨w.heap.size,0,none⟩=some (int u64 x)∧w'.cell? ⟨w.heap.size,1,none⟩=some (int u64 y)∧w'.cell? ⟨w.heap.size,2,none⟩=some (.bool false)) (first|exact ⟨c0,c1,c2⟩|exact ⟨keepC c0 b1,keepC c1 b1,keepC c2 b1⟩|go_keep) ((go_at_call 77;refine(zpP _).mono ?_;rintro e w1 ⟨rfl,b1⟩))
  replace hb:=keepB hb.drew hb.size b1;replace hp:=(hp.drew).keep b1;clear c0 c1 c2;have c0:=hp.c0;have c1:=hp.c1;go_wp2;go_ret;exact⟨rfl,hb⟩
theorem wrdV:∀(p:Pt) (w:World),Cr 226 #[ptW p] w (int u64 (putN p:Nat))
  |none,w=>wrdP_none w
  | some (x,y),w=>by
    have hx:=val_lt x
    have hy:(fv y).tmod 2=((y.val%2:Nat):Int):=by
      unfold fv;rw [Int.tmod_eq_emod_of_nonneg (by omega)];omega
    have hz:y.val%2<2:=Nat.mod_lt _ (by decide);refine wrdP_some (fv x) (fv y) (fv x+4611686018427387904) _ (2305843009213693952*((y.val%2:Nat):Int)) _ w ?_ hy ?_ ?_
    · unfold fv;rw [IntKind.wrap_u64];omega
    · rw [IntKind.wrap_u64];omega
    · rw [putN_some];unfold fv;rw [IntKind.wrap_u64];generalize x.val=X at*;generalize y.val%2=Z at*;omega
theorem wrtX (n:Nat)(w:World)(h:n≤65535):
    Cr 235 #[.int .i64 n] w (.string (numB n)):=by
  have L:=fun w=>beI_any (n:Int) 2 w (by omega) (by omega) (by omega) (by omega)
  rw [beTo2 _ h] at L;have e1:IntKind.u64.wrap (n:Int)=(n:Int):=by rw [IntKind.wrap_u64];omega
  go_enter func235,ntmps235;go_wp2_with fail;refine(L _).mono ?_;rintro e w1 ⟨rfl,b1⟩;go_wp2;go_ret;exact⟨rfl,b1⟩
theorem wrtC_of (x y n:Int)(c:Bool)(s z:ByteArray)(w:World)
    (L1:Cc 226 #[.agg #[int u64 x,int u64 y,.bool c]] (int u64 n))
    (L2:Cc 228 #[int u64 n] (.string s))
    (L3:Cc 229 #[.string s] (.string z)):
    Cr 227 #[.agg #[int u64 x,int u64 y,.bool c]] w (.string z):=by
  have hb:=balc w (Obj.cells #[int u64 x,int u64 y,.bool c] 75);go_enter func227,ntmps227;go_wp2_with fail;refine(L1 _).mono ?_;rintro e w1 ⟨rfl,b1⟩;replace hb:=hb.tr b1;go_wp2_with fail;refine(L2 _).mono ?_;rintro e w2 ⟨rfl,b2⟩;replace hb:=hb.tr b2;go_wp2_with fail;refine(L3 _).mono ?_;rintro e w3 ⟨rfl,b3⟩;replace hb:=hb.tr b3;go_wp2;go_ret;exact⟨rfl,hb⟩
theorem wrtC (p:Pt)(w:World):
    Cr 227 #[.agg #[int u64 (px p),int u64 (py p),.bool (pb p)]] w (.string (sizB (ptB p))):=
  wrtC_of _ _ _ _ _ _ w (fun w=>by rw [←ptW_eq];exact wrdV p w) (fun w=>putI_any (putN p) w (putN_lt p)) (fun w=>wrtZ (ptB p) w (by rw [ptB_size];omega))
theorem mthX (n:Int)(w:World):(method 432 222 (.int .i64 n) "loop.example/s02095/impl.written").run prog w= .ok (235,.int .i64 n) w:=by kernel_rfl
theorem mthC (x y:Int)(c:Bool)(w:World):(method 432 75 (.agg #[int u64 x,int u64 y,.bool c]) "loop.example/s02095/impl.written").run prog w= .ok (227,.agg #[int u64 x,int u64 y,.bool c]) w:=by kernel_rfl
theorem ceX (args:Array Value)(w:World):(callFunc 235 args).run prog w= .ok (.enter 235 args) w:=by kernel_rfl
theorem ceC (args:Array Value)(w:World):(callFunc 227 args).run prog w= .ok (.enter 227 args) w:=by kernel_rfl
theorem writX (n:Nat)(h:n≤65535):Writ (.iface 222 (.int .i64 n)) (numB n):=⟨_,_,_,rfl,mthX n,ceX,fun w=>wrtX n w h⟩
theorem writC (p:Pt):Writ (.iface 75 (.agg #[int u64 (px p),int u64 (py p),.bool (pb p)])) (sizB (ptB p)):=⟨_,_,_,rfl,mthC _ _ _,ceC,fun w=>wrtC p w⟩
theorem rn_res {W:World}{b:Nat}{y:Int}{fn:Func}{p:Tmp}(h:fn.results=#[.cell p 86])(tmps:Array Value)(hp:tmps.getD p undef= .pointer (some ⟨b,0,none⟩))(hc:RN W b y):
    (results fn tmps).run prog W= .ok (.agg #[int u64 y]) W:=
  results_mid h tmps W b 0 [int u64 y] _ hp hc.range underlying86 rfl (by kernel_rfl)
theorem scaI_of (c s t:ByteArray)(z:Int)(w:World)
    (T:Cc 123 #[.string c,.string ⟨#[72,97,115,104,84,111,83,99,97,108,97,114,45]⟩] (.string t))
    (H:Cb w 154 #[.string s,.string t] (.tuple #[.agg #[int u64 z],.bool true])):
    Cr 118 #[.string c,.string s] w (.agg #[int u64 z]):=by
  have hr:RN (w.alloc (Obj.cells #[int u64 0] 86)) w.heap.size 0:=heap_alloc_new w _;have hb:=balc w (Obj.cells #[int u64 0] 86);go_enter func118,ntmps118;go_wp2_with fail;refine(T _).mono ?_;rintro e w1 ⟨rfl,b1⟩;replace hr:=hr.keep b1;replace hb:=hb.tr b1;go_wp2_with fail;refine(H _ hb).mono ?_;rintro e w2 ⟨rfl,b2⟩;replace hr:=(hr.keep b2).keep (balc w2 (Obj.cells #[int u64 z] 86));replace hb:=hb.tr b2;replace hb:=hb.alloc hb.size (Obj.cells #[int u64 z] 86);have d0:=hr.cell;have f0:=hr.frz;clear T H b1 b2;go_wp2;exact bodyPost_ret (v:= .agg #[int u64 z]) (rn_res (fn:=Tryz.f118) (p:=4) results118 _ rfl (hr.set z)) rfl ⟨rfl,hb.setCell (p:=⟨w.heap.size,0,none⟩) (Nat.le_refl _) _⟩
theorem scaI_any (s:ByteArray)(k:Nat)(w:World)(hT:TabK w)(hk:k<3)(hs:s.size≤65535):
    Cr 118 #[.string (ctxB k),.string s] w (.agg #[int u64 (scaN s k:Nat)]):=by
  have hgw:7<w.heap.size:=World.block_lt_of_cell? w _ (hT 0 (by omega));have hz:=ctxB_size k hk;have e:scaT k=⟨#[72,97,115,104,84,111,83,99,97,108,97,114,45]⟩++ctxB k:=tagB_ctx _ k;have hz2:(scaT k).size=25:=by rw [e,ByteArray.size_append,hz];rfl
  refine scaI_of (ctxB k) s (scaT k) _ w (fun w=> ?_) (fun w' hb=> ?_)
  · rw [e];exact tagI_any (ctxB k) _ w (by omega) (by decide)
  · exact h2sN_yes s (scaT k) w' (keepT hT hgw hb) ⟨by omega,by omega,hs⟩
end
section
open Go.Shelf
section
attribute [local go_sem] Oper.semAt_some
def R1n (W:World)(b:Nat)(y:Int):Prop:=W.heap[b]? =some (.cells #[int u64 y] 86)
section
variable {W W':World}{b:Nat}{y:Int}
theorem R1n.cell (h:R1n W b y):W.cell? ⟨b,0,none⟩=some (int u64 y):=by unfold R1n at h;simp [World.cell?,h]
theorem R1n.frz (h:R1n W b y):W.frozen? ⟨b,0,none⟩=false:=by unfold R1n at h;simp [World.frozen?,h]
theorem R1n.lt (h:R1n W b y):b<W.heap.size:=(Array.getElem?_eq_some_iff.1 h).1
theorem R1n.below {N:Nat}(h:R1n W b y)(hb:Below N W W')(hl:b<N):R1n W' b y:=(hb.block b hl).trans h
theorem R1n.keep (h:R1n W b y)(hb:Bl W W'):R1n W' b y:=h.below hb h.lt
theorem R1n.new (w:World)(y:Int):R1n (w.alloc (.cells #[int u64 y] 86)) w.heap.size y:=heap_alloc_new w _
theorem R1n.alloc (h:R1n W b y)(o:Obj):R1n (W.alloc o) b y:=(Below.heap_alloc W o b h.lt).trans h
theorem R1n.drew (h:R1n W b y):R1n W.drew b y:=h
theorem R1n.range (h:R1n W b y):W.rangeAt b 0 [int u64 y]:=fun j v hj=>by
  match j,hj with
  |0,hj=>cases hj;exact h.cell
theorem R1n.at {b':Nat}(h:R1n W b y)(e:b=b'):R1n W b' y:=e▸h
theorem R1n.set (h:R1n W b y)(y':Int):R1n (W.setCell ⟨b,0,none⟩ (int u64 y')) b y':=by
  unfold R1n at*;simp [World.setCell,Array.getElem?_modify,h]
theorem R1n.other (h:R1n W b y){b':Nat}(hne:b≠b')(i:Nat)(v:Value):R1n (W.setCell ⟨b',i,none⟩ v) b y:=by
  unfold R1n at*;rw [←h];simp [World.setCell,Array.getElem?_modify,Ne.symm hne]
theorem num_resN {fn:Func}{p:Tmp}(h:fn.results=#[.cell p 86])(tmps:Array Value)(hp:tmps.getD p undef= .pointer (some ⟨b,0,none⟩))(hc:R1n W b y):
    (results fn tmps).run prog W= .ok (.agg #[int u64 y]) W:=
  results_mid h tmps W b 0 [int u64 y] _ hp hc.range underlying86 rfl (by kernel_rfl)
end
theorem redN_one (w:World):
    Calls prog 170 #[int u64 1,.agg #[]] w fun e w'=>e= .returned (.agg #[int u64 1])∧w'=(((w.alloc (.cells #[] 84)).alloc (.cells #[int u64 1] 86)).alloc (.cells #[] 84)).drew:=by
  have hm:=mthN;have hf:=fldN;have V:=vluN;go_enter func170,ntmps170;go_wp2
  go_region_held3 (fun _=>True) (trivial) ((go_simp;go_at_call 230;refine(V _).mono ?_;rintro e w' ⟨rfl,rfl⟩))
  go_wp2;refine bodyPost_ret (v:= .agg #[int u64 1]) (by simp [results,results170,go_sem]) rfl ⟨rfl,rfl⟩
theorem ngN_of (a c:Int)(w:World)
    (M:Cc 174 #[.agg #[int u64 0],.agg #[int u64 a]] (.agg #[int u64 c])):
    Cr 184 #[.agg #[int u64 a]] w (.agg #[int u64 c]):=by
  have hf:=fldN;obtain⟨X,hX⟩:∃X,X=(w.alloc (Obj.cells #[int u64 a] 86)).alloc (Obj.cells #[int u64 0] 86):=⟨_,rfl⟩
  have hX0:X.heap[w.heap.size]? =some (.cells #[int u64 a] 86):=by
    rw [hX];exact(Below.heap_alloc _ _ _ (by simp)).trans (heap_alloc_new w _)
  have hp1:=prtN hX0;have hr:R1n X (w.heap.size+1) 0:=by rw [hX];exact(R1n.new _ 0).at (by simp)
  have hbX:Bl w X:=by rw [hX];exact((Below.refl _ w).alloc (Nat.le_refl _) _).alloc (by simp) _
  rw [hX] at hp1 hr hbX;clear hX hX0;go_enter func184,ntmps184;go_wp2_with fail;refine(M _).mono ?_;rintro e w' ⟨rfl,hb⟩;have hr1:=hr.keep hb;have cc:=hr1.cell;have ff:=hr1.frz;have hb2:=keepB hbX (by simp;omega) hb;clear hb hbX hr hp1;go_wp2;exact bodyPost_ret (v:= .agg #[int u64 c]) (num_resN (fn:=Tryz.f184) (p:=2) results184 _ rfl (hr1.set c)) rfl ⟨rfl,hb2.setCell (p:=⟨w.heap.size+1,0,none⟩) (by simp) _⟩
theorem plN_of (a b d c:Int)(w:World)
    (N:Cc 184 #[.agg #[int u64 b]] (.agg #[int u64 d]))
    (M:Cc 174 #[.agg #[int u64 a],.agg #[int u64 d]] (.agg #[int u64 c])):
    Cr 172 #[.agg #[int u64 a],.agg #[int u64 b]] w (.agg #[int u64 c]):=by
  obtain⟨X,hX⟩:∃X,X=(((w.alloc (Obj.cells #[int u64 a] 86)).alloc (Obj.cells #[int u64 b] 86)).alloc (Obj.cells #[int u64 0] 86)).drew:=⟨_,rfl⟩;have hr:R1n X (w.heap.size+1+1) 0:=by rw [hX];exact((R1n.new _ 0).drew).at (by simp)
  have hbX:Bl w X:=by rw [hX];exact((((Below.refl _ w).alloc (Nat.le_refl _) _).alloc (by simp) _).alloc (by simp;omega) _).drew
  have hl:w.heap.size≤X.heap.size:=hbX.size;rw [hX] at hr hbX hl;clear hX;go_enter func172,ntmps172;go_wp2
  go_region_held3 (fun w'=>w'.cell? ⟨w.heap.size,0,none⟩=some (int u64 a)∧w'.cell? ⟨w.heap.size+1,0,none⟩=some (int u64 b)) (first|exact ⟨keepC (keepC (by simp [go_sem]) b1) b2,keepC (keepC (by simp [go_sem]) b1) b2⟩|exact ⟨keepC (by simp [go_sem]) b1,keepC (by simp [go_sem]) b1⟩|exact ⟨keepS (keepC (keepC (by simp [go_sem]) b1) b2) (by simp;omega),keepS (keepC (keepC (by simp [go_sem]) b1) b2) (by simp)⟩|go_keep) (first
    |(go_at_call 184;refine(N _).mono ?_;rintro e w1 ⟨rfl,b1⟩)
    |(go_at_call 174;refine(M _).mono ?_;rintro e w2 ⟨rfl,b2⟩;have hr2:=(hr.keep b1).keep b2;have cc:=hr2.cell;have ff:=hr2.frz))
  go_wp2;have hb2:=keepB (keepB hbX hl b1) (Nat.le_trans hl b1.size) b2;exact bodyPost_ret (v:= .agg #[int u64 c]) (num_resN (fn:=Tryz.f172) (p:=4) results172 _ rfl (hr2.set c)) rfl ⟨rfl,hb2.setCell (p:=⟨w.heap.size+1+1,0,none⟩) (by simp;omega) _⟩
theorem powN_any (a e : Nat)(w:World)(ha:a<2305843010818082053)(he:e<18446744073709551616):
    Calls prog 131 #[.agg #[int u64 a],int u64 e] w fun r w'=>r= .returned (.agg #[int u64 (a^e%2305843010818082053:Nat)])∧Bl w w':=by
  obtain⟨res,hres⟩:∃res,Hid (res=a^e%2305843010818082053):=⟨_,rfl⟩;rw [←hres.out];have R:=redN_one;have B:=bits_of e;have rA0:Rp ((w.alloc (.cells #[int u64 (a:Int)] 86)).alloc (.cells #[int u64 0] 86)) 86 w.heap.size a:=(Rp.new w _ a).alloc _;have hp1:=prtN rA0;refine(callsIn_wide (n:=5)).1 ?_;refine callsIn_of_wp_marks func131 rfl trivial ?_ rfl;simp only [ntmps131,List.size_toArray,List.length_cons,List.length_nil,Nat.reduceAdd,Nat.reduceSub,Array.replicate_succ,Array.replicate_zero,List.push_toArray,List.append_toArray,List.nil_append,List.cons_append]
  gi_wp2_with (first
    |(refine⟨trivial,?_⟩;gi_at_call 170;refine(callsIn_wide.2 (R _)).mono ?_;rintro e w' ⟨rfl,rfl⟩)
    |(refine⟨trivial,?_⟩;gi_at_call 120;refine(callsIn_wide.2 (B _)).mono ?_;rintro e w' ⟨rfl,rfl⟩))
  clear R B hp1 rA0
  obtain⟨W0,hW0⟩:∃W0,(((((((w.alloc (Obj.cells #[Value.int IntKind.u64 (a:Int)] 86)).alloc (Obj.cells #[Value.int IntKind.u64 0] 86)).alloc
                        (Obj.cells #[] 84)).alloc
                    (Obj.cells #[Value.int IntKind.u64 1] 86)).alloc
                (Obj.cells #[] 84)).alloc
            (Obj.cells #[Value.int IntKind.u64 1] 86)).alloc
        (Obj.cells #[Value.int IntKind.u64 (e:Int)] 23)).drew=W0:=⟨_,rfl⟩
  rw [hW0];have hsz:W0.heap.size=w.heap.size+7:=by rw [←hW0];simp
  have hA:Rp W0 86 w.heap.size a:=by rw [←hW0];exact(((((((Rp.new w _ a).alloc _).alloc _).alloc _).alloc _).alloc _).alloc _).drew
  have hR:Rp W0 86 (w.heap.size+1) 0:=by rw [←hW0];exact(((((((Rp.new _ _ 0).alloc _).alloc _).alloc _).alloc _).alloc _).drew).at (by simp)
  have hO:Rp W0 86 (w.heap.size+1+1+1+1+1) 1:=by rw [←hW0];exact(((Rp.new _ _ 1).alloc _).drew).at (by simp)
  have hE:W0.cell? ⟨w.heap.size+1+1+1+1+1+1,0,none⟩=some (int u64 e):=by
    rw [←hW0];exact(cell_new1 _ _ _ (by simp))
  have hB:Bl w W0:=by
    rw [←hW0];exact((((((((Below.refl _ w).alloc (Nat.le_refl _) _).alloc (by simp) _).alloc (by simp;omega) _).alloc (by simp;omega) _).alloc (by simp;omega) _).alloc (by simp;omega) _).alloc (by simp;omega) _).drew
  clear hW0
  refine wpIn_rangeFunc_ownF (F:=Fence.wide) (n:=5) rfl (by omega) (gf:=157) (lb:=#[.pointer (some ⟨w.heap.size+1+1+1+1+1+1,0,none⟩)]) rfl trivial (enters_of func157 (by kernel_rfl) rfl)
    (bit_stops (5-1) (by omega) e (w.heap.size+1+1+1+1+1+1) he W0 hE (by omega)) (fun h k x=>k (h x)) ?hKb (Below.refl _ _) (fun _=>rfl)
    (fun pre W=>(Rp W 86 (w.heap.size+1+1+1+1+1) (a^valB pre%2305843010818082053)∧Rp W 86 w.heap.size a∧Rp W 86 (w.heap.size+1) 0)∧Bl w W)
    (fun _ _ _=>False)
    (OwnFrom.and (OwnFrom.and (Rp.own _ _ _ _) (OwnFrom.and (Rp.own _ _ _ (fun _=>a)) (Rp.own _ _ _ (fun _=>0)))) (ownFrom_below (Nat.le_refl _) (by omega)))
    (fun _ _ _ _ _ hs _ _=>hs)
    ⟨⟨by simpa [valB] using hO,hA,hR⟩,hB⟩
    (fun x=>{tmps:=#[Value.agg #[Value.int IntKind.u64 (a:Int)],Value.int IntKind.u64 (e:Int),
          Value.pointer (some {block:=w.heap.size,off:=0}),undef,
          Value.pointer (some {block:=w.heap.size+1,off:=0}),
          Value.pointer (some {block:=w.heap.size+1+1+1+1+1,off:=0}),.bool x,
          Value.pointer (some {block:=w.heap.size,off:=0}),Value.agg #[],
          Value.agg #[Value.int IntKind.u64 1],Value.int IntKind.u64 (e:Int),
          Value.func (Fn.func 157) #[] #[Value.pointer (some {block:=w.heap.size+1+1+1+1+1+1,off:=0})],.bool x,
          undef,undef,undef,undef,undef,undef,undef,undef],defers:= []}) ?assign ?body ?done ?stop
  case hKb=>
    intro W l o o' hl ho hc _ hcell;have hne:w.heap.size+1+1+1+1+1+1≠l:=by omega
    refine(World.cell?_of_block ?_).trans hcell;exact(grownBy_putObj' W l o').block _ (World.block_lt_of_cell? W _ hcell) (fun e=>hne (Option.some.inj e))
  case assign=>
    intro l x W K hK
    gi_wp2
    exact hK
  case body=>
    rintro l pre x W ⟨⟨rO,rA,rR⟩,rB⟩ _;obtain⟨c,hc⟩:∃c,Hid (c=a^valB pre%2305843010818082053):=⟨_,rfl⟩;rw [←hc.out] at rO;have hcm:c<2305843010818082053:=by rw [hc.out];exact Nat.mod_lt _ (by omega)
    have T1:=fun w=>timN_any c c w hcm hcm
    have hdm:c*c%2305843010818082053<2305843010818082053:=Nat.mod_lt _ (by omega);have T2:=fun w=>timN_any (c*c%2305843010818082053) a w hdm ha
    obtain⟨d,hd⟩:∃d,Hid (d=c*c%2305843010818082053):=⟨_,rfl⟩;rw [←hd.out] at T1 T2;obtain⟨d2,hd2⟩:∃d2,Hid (d2=d*a%2305843010818082053):=⟨_,rfl⟩;rw [←hd2.out] at T2;have o0:=rO.cell;clear hdm hcm ha he;cases x
    · gi_wp2_with fail
      refine⟨trivial,?_⟩
      gi_at_call 171
      refine(CallsIn.inRound l (callsIn_wide.2 (T1 _))).mono ?_;rintro e' W1 ⟨rfl,b1⟩;have rO1:=rO.below b1 rO.lt;have f0:=rO1.frz;have p0:=rO1.cell
      gi_wp2
      have ev:valB (pre++ [false])=2*valB pre:=by rw [valB_snoc];rfl
      refine⟨(keeps_below b1).trans (KeepsOthers.setCell _ _ _),fun hk=> ?_,⟨⟨?_,?_,?_⟩,?_⟩⟩
      · exact(set_cell W1 (w.heap.size+1+1+1+1+1) _ (by omega)).trans ((b1.cell (p:=⟨w.heap.size+1+1+1+1+1+1,0,none⟩) (World.block_lt_of_cell? W _ hk)).trans hk)
      · rw [ev,←pow_step0 a 2305843010818082053 c d _ hc.out hd.out];exact rO1.set d
      · exact(rA.below b1 rA.lt).other (by omega) _
      · exact(rR.below b1 rR.lt).other (by omega) _
      · exact(rB.tr b1).setCell (p:=⟨w.heap.size+1+1+1+1+1,0,none⟩) (by simp;omega) _
    · gi_wp2_with fail
      refine⟨trivial,?_⟩
      gi_at_call 171
      refine(CallsIn.inRound l (callsIn_wide.2 (T1 _))).mono ?_;rintro e' W1 ⟨rfl,b1⟩;have rO1:=rO.below b1 rO.lt;have f0:=rO1.frz;have p0:=rO1.cell;have rO2:=rO1.set d;have rA2:Rp (W1.setCell ⟨w.heap.size+1+1+1+1+1,0,none⟩ (int u64 d)) _ _ _:=(rA.below b1 rA.lt).other (by omega) _;have rR2:Rp (W1.setCell ⟨w.heap.size+1+1+1+1+1,0,none⟩ (int u64 d)) _ _ _:=(rR.below b1 rR.lt).other (by omega) _;have rB2:=(rB.tr b1).setCell (p:=⟨w.heap.size+1+1+1+1+1,0,none⟩) (by simp;omega) (int u64 d);have k2:=(keeps_below b1).trans (KeepsOthers.setCell W1 ⟨w.heap.size+1+1+1+1+1,0,none⟩ (int u64 d))
      have c2:W.cell? ⟨w.heap.size+1+1+1+1+1+1,0,none⟩=some (int u64 e)→(W1.setCell ⟨w.heap.size+1+1+1+1+1,0,none⟩ (int u64 d)).cell? ⟨w.heap.size+1+1+1+1+1+1,0,none⟩=some (int u64 e):=fun hk=>
        (set_cell W1 (w.heap.size+1+1+1+1+1) _ (by omega)).trans ((b1.cell (p:=⟨w.heap.size+1+1+1+1+1+1,0,none⟩) (World.block_lt_of_cell? W _ hk)).trans hk)
      have q1:=rO2.cell;have q3:=rA2.cell
      gi_wp2_with fail
      refine⟨trivial,?_⟩
      gi_at_call 171
      refine(CallsIn.inRound l (callsIn_wide.2 (T2 (W1.setCell ⟨w.heap.size+1+1+1+1+1,0,none⟩ (int u64 d))))).mono ?_;rintro e' W3 ⟨rfl,b3⟩;clear q1 q3 f0 p0 o0;generalize W1.setCell ⟨w.heap.size+1+1+1+1+1,0,none⟩ (int u64 d)=W2 at*;have rO3:=rO2.below b3 rO2.lt;have f0:=rO3.frz;have p0:=rO3.cell
      gi_wp2
      have ev:valB (pre++ [true])=2*valB pre+1:=by rw [valB_snoc];rfl
      refine⟨k2.trans ((keeps_below b3).trans (KeepsOthers.setCell _ _ _)),fun hk=> ?_,⟨⟨?_,?_,?_⟩,?_⟩⟩
      · exact(set_cell W3 (w.heap.size+1+1+1+1+1) _ (by omega)).trans ((b3.cell (p:=⟨w.heap.size+1+1+1+1+1+1,0,none⟩) (World.block_lt_of_cell? W2 _ (c2 hk))).trans (c2 hk))
      · rw [ev,←pow_step1 a 2305843010818082053 c d d2 _ hc.out hd.out hd2.out];exact rO3.set d2
      · exact(rA2.below b3 rA2.lt).other (by omega) _
      · exact(rR2.below b3 rR2.lt).other (by omega) _
      · exact(rB2.tr b3).setCell (p:=⟨w.heap.size+1+1+1+1+1,0,none⟩) (by simp;omega) _
  case done=>
    rintro D xs W hD rfl ⟨⟨rO,rA,rR⟩,rB⟩ hK;rw [valB_all e (by omega),←hres.out] at rO;have o0:=rO.cell;have r0:=rR.cell;have f0:=rR.frz
    gi_wp2
    refine⟨by simp,.inl ⟨_,_,rfl,run_takeDeferred ((KeepsOthers.setCell W ⟨w.heap.size+1,0,none⟩ (int u64 res)).same D _ hK rfl),?_⟩⟩;have rF:=rR.set res;refine⟨.agg #[int u64 res],?_,rfl,?_⟩
    · have hne:D≠w.heap.size+1:=by omega
      have rG:Rp ((W.setCell ⟨w.heap.size+1,0,none⟩ (int u64 res)).putObj D (Obj.deferred none)) 86 (w.heap.size+1) res:=
        ((grownBy_putObj' _ D (Obj.deferred none)).block _ rF.lt (fun e=>hne (Option.some.inj e).symm)).trans rF
      exact results_mid (fn:=Tryz.f131) (p:=4) (ty:=86) results131 _ _ (w.heap.size+1) 0 [int u64 res] _ rfl rG.range underlying86 rfl (by kernel_rfl)
    · have hB3:=rB.setCell (p:=⟨w.heap.size+1,0,none⟩) (by simp) (int u64 res);exact hB3.grown (grownBy_putObj' _ D (Obj.deferred none)) hB3.size (fun k e=>by cases e;omega)
  case stop=>
    rintro D c pre W _ _ h _;exact h.elim
theorem ivN_of (a c:Int)(w:World)
    (T:Cc 131 #[.agg #[int u64 a],int u64 2305843010818082051] (.agg #[int u64 c])):
    Cr 99 #[.agg #[int u64 a]] w (.agg #[int u64 c]):=by
  have hme:=mthN;have V:=vluN;have hp:∀w':World,w'.heap[w.heap.size]? =some (.cells #[int u64 a] 86)→(partAt ⟨w.heap.size,0,none⟩ 0 0).run prog w'= .ok ⟨w.heap.size,0,none⟩ w':=fun w' h=>prtN h
  obtain⟨X,hX⟩:∃X,X=((w.alloc (Obj.cells #[int u64 a] 86)).alloc (Obj.cells #[int u64 0] 86)).drew:=⟨_,rfl⟩;have hx:R1n X w.heap.size a:=by rw [hX];exact((R1n.new w a).alloc _).drew
  have hr:R1n X (w.heap.size+1) 0:=by rw [hX];exact((R1n.new _ 0).drew).at (by simp)
  have hbX:Bl w X:=by rw [hX];exact(((Below.refl _ w).alloc (Nat.le_refl _) _).alloc (by simp) _).drew
  have hl:w.heap.size≤X.heap.size:=hbX.size;have hx1:=hx.alloc (Obj.cells #[] 84);have hr1:=hr.alloc (Obj.cells #[] 84);have hb1:=hbX.alloc hl (Obj.cells #[] 84);have c0:=hx.cell;have c1:=hx1.cell;have e0:=hx;have e1:=hx1;have hl1:w.heap.size≤(X.alloc (Obj.cells #[] 84)).heap.size:=hb1.size;unfold R1n at e0 e1;rw [hX] at hx hr hx1 hr1 hb1 c0 c1 e0 e1 hl1;clear hX hbX hl;go_enter func99,ntmps99;go_wp2
  go_region_held3 (fun w'=>w'.cell? ⟨w.heap.size,0,none⟩=some (int u64 a)∧w'.heap[w.heap.size]? =some (.cells #[int u64 a] 86)) (first|exact ⟨c0,e0⟩|exact ⟨c1,e1⟩|exact ⟨c2,e2⟩|exact ⟨c3,e3⟩|go_keep) ((go_simp;first
    |(go_at_call 230;refine(V _).mono ?_;rintro e w' ⟨rfl,rfl⟩)
    |(go_at_call 131;refine(T _).mono ?_;rintro e w2 ⟨rfl,b2⟩;have hx2:=hx1.keep b2;have hr2:=hr1.keep b2;have c2:=hx2.cell;have e2:=hx2;unfold R1n at e2;have cc:=hr2.cell;have ff:=hr2.frz;have hx3:R1n (w2.setCell ⟨w.heap.size+1,0,none⟩ (int u64 c)) w.heap.size a:=hx2.other (by simp) 0 _;have c3:=hx3.cell;have e3:=hx3;unfold R1n at e3)))
  go_wp2;exact bodyPost_ret (v:= .agg #[int u64 c]) (num_resN (fn:=Tryz.f99) (p:=2) results99 _ rfl (hr2.set c)) rfl ⟨rfl,(keepB hb1 hl1 b2).setCell (p:=⟨w.heap.size+1,0,none⟩) (by simp) _⟩
end
theorem ngN_any (b:Nat)(w:World)(hb:b<2305843010818082053):
    Cr 184 #[.agg #[int u64 b]] w (.agg #[int u64 ((0+(2305843010818082053-b)%2305843010818082053)%2305843010818082053:Nat)]):=
  ngN_of _ _ w (fun w=>mnN_any 0 b w (by decide) hb)
theorem plN_any (a b:Nat)(w:World)(ha:a<2305843010818082053)(hb:b<2305843010818082053):
    Cr 172 #[.agg #[int u64 a],.agg #[int u64 b]] w (.agg #[int u64 ((a+b)%2305843010818082053:Nat)]):=by
  have e:(a+(2305843010818082053-(0+(2305843010818082053-b)%2305843010818082053)%2305843010818082053)%2305843010818082053)%2305843010818082053=(a+b)%2305843010818082053:=by omega
  have:=plN_of (a:Int) (b:Int) _ _ w (fun w=>ngN_any b w hb) (fun w=>mnN_any a ((0+(2305843010818082053-b)%2305843010818082053)%2305843010818082053) w ha (Nat.mod_lt _ (by decide)));rwa [e] at this
theorem ivn_is' (p a k:Nat)(hk:k=p-2):a^k%p=M.ivn p a:=by subst hk;rfl
theorem ivN_any (a:Nat)(w:World)(ha:a<2305843010818082053):
    Cr 99 #[.agg #[int u64 a]] w (.agg #[int u64 (M.ivn 2305843010818082053 a:Nat)]):=by
  refine ivN_of (a:Int) _ w fun w=> ?_
  obtain⟨k,hk⟩:∃k:Nat,k=2305843010818082051:=⟨_,rfl⟩;have:=powN_any a k w ha (by omega);rw [ivn_is' _ _ _ (by omega),show (k:Int)=2305843010818082051 by omega] at this;exact this
end
end Go.Proofs.YtmjniccfjffclaaGreatDoor
