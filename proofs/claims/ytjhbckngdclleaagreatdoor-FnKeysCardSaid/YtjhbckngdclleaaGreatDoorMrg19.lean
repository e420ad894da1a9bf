import Derived.Test.YtjhbckngdclleaaGreatDoorMrg10
import Derived.RangeFuncNested
import Derived.RangeFuncBound
import Derived.Shelf.RegionOpen
import Derived.OwnWalkIn
import Derived.LoopNIn
import Derived.LoopIn
set_option linter.unusedVariables false
set_option maxRecDepth 100000
set_option maxHeartbeats 16000000
namespace Go.Proofs.YtjhbckngdclleaaGreatDoor
open Go.Proofs.Tryz Go.RowKit
open Go.Value (int)
open Go.IntKind (u64)
theorem methP (w:World):(method 469 165 (.agg #[]) "loop.example/s02095/impl.value").run prog w= .ok (277,.agg #[]) w:=by kernel_rfl
theorem valP (w:World):
    Calls prog 277 #[.agg #[]] w fun e w'=>e= .returned (int u64 2305843009213693951)∧w'=w.alloc (.cells #[] 165):=by
  go_enter func277,ntmps277;go_wp2;go_ret;exact⟨rfl,rfl⟩
theorem foldP:Array.foldl (fun(cs:Array Value) (x:Value×Nat)=>cs.setIfInBounds x.snd x.fst) #[Value.int IntKind.u64 0] (#[]:Array Value).zipIdx 0 0=#[Value.int .u64 0]:=rfl
theorem redP_one (w:World):
    Calls prog 167 #[int u64 1,.agg #[]] w fun e w'=>e= .returned (.agg #[int u64 1])∧w'=(((w.alloc (.cells #[] 165)).alloc (.cells #[int u64 1] 167)).alloc (.cells #[] 165)).drew:=by
  have hm:=methP;have hf:=foldP;have V:=valP;go_enter func167,ntmps167;go_wp2
  go_region_held3 (fun _=>True) (trivial) ((go_simp;go_at_call 277;refine(V _).mono ?_;rintro e w' ⟨rfl,rfl⟩))
  go_wp2;refine bodyPost_ret (v:= .agg #[int u64 1]) (by simp [results,results167,go_sem]) rfl ⟨rfl,rfl⟩
theorem cellsP:prog.cellsOf 167=1:=by kernel_rfl
theorem byteP:byteOfCell prog prog.depth 167 0=some 0:=by kernel_rfl
theorem partP {W:World}{b:Nat}{cs:Array Value}(hW:W.heap[b]? =some (.cells cs 167)):(partAt ⟨b,0,none⟩ 0 0).run prog W= .ok ⟨b,0,none⟩ W:=by
  have h:(byteOf ⟨b,0,none⟩).run prog W= .ok 0 W:=by
    have hs:W.shape? b=some (167,cs.size):=by simp [World.shape?,hW]
    simp [byteOf,noView,viewAt,shape,program,Sem.run,hs,cellsP,byteP,go_sem]
  simp [partAt,h,go_sem]
theorem timP_any (a b:Nat)(w:World)(ha:a<2305843009213693951)(hb:b<2305843009213693951):
    Cr 116 #[.agg #[int u64 a],.agg #[int u64 b]] w (.agg #[int u64 (a*b%2305843009213693951:Nat)]):=by
  have hme:=methP;have hf:=foldP;have M:=mul64_any a b (by omega) (by omega)
  have D:=fun w=>div_any (a*b/18446744073709551616) (a*b%18446744073709551616) 2305843009213693951 w (by
    rw [Nat.div_lt_iff_lt_mul (by decide)];have:a*b≤2305843009213693950*2305843009213693950:=Nat.mul_le_mul (by omega) (by omega)
    omega) (by decide) (Nat.mod_lt _ (by decide))
  have e:a*b/18446744073709551616*18446744073709551616+a*b%18446744073709551616=a*b:=by omega
  rw [e] at D;clear e;generalize a*b/18446744073709551616=hi at*;generalize a*b%18446744073709551616=lo at*;obtain⟨c,hc⟩:∃c,c=a*b%2305843009213693951:=⟨_,rfl⟩;rw [←hc] at D⊢;clear hc ha hb;obtain⟨X,hX⟩:∃X,X=((w.alloc (Obj.cells #[int u64 (a:Int)] 167)).alloc (Obj.cells #[int u64 (b:Int)] 167)).alloc (Obj.cells #[int u64 0] 167):=⟨_,rfl⟩
  have hX0:X.heap[w.heap.size]? =some (.cells #[int u64 (a:Int)] 167):=by
    rw [hX];exact(Below.heap_alloc _ _ _ (by simp;omega)).trans ((Below.heap_alloc _ _ _ (by simp)).trans (heap_alloc_new w _))
  have hp1:=partP hX0;have hX1:(X.alloc (Obj.cells #[] 165)).heap[w.heap.size]? =some (.cells #[int u64 (a:Int)] 167):=(Below.heap_alloc _ _ _ (Array.getElem?_eq_some_iff.1 hX0).1).trans hX0;have hp2:=partP hX1;have hp3:=partP (W:=(X.alloc (Obj.cells #[] 165)).drew) hX1;rw [hX] at hp1 hp2 hp3;clear hX hX0 hX1;go_enter func116,ntmps116;go_wp2_with fail;refine(M _).mono ?_;rintro e w' ⟨rfl,rfl⟩;go_wp2_with fail;refine(valP _).mono ?_;rintro e w' ⟨rfl,rfl⟩;go_wp2_with fail;refine(D _).mono ?_;rintro e w' ⟨⟨z,rfl⟩,rfl|rfl⟩
  · go_wp2;refine bodyPost_ret (v:= .agg #[int u64 c]) (by simp [results,results116,go_sem]) rfl ⟨rfl,?_⟩;exact((((Below.refl _ _).alloc (Nat.le_refl _) _).alloc (by simp) _).alloc (by simp;omega) _).alloc (by simp;omega) _
  · go_wp2;refine bodyPost_ret (v:= .agg #[int u64 c]) (by simp [results,results116,go_sem]) rfl ⟨rfl,?_⟩;exact(((((Below.refl _ _).alloc (Nat.le_refl _) _).alloc (by simp) _).alloc (by simp;omega) _).alloc (by simp;omega) _).drew
theorem keepC {w1 w2:World}{p:Addr}{v:Value}(h:w1.cell? p=some v)(b:Bl w1 w2):w2.cell? p=some v:=by
  by_cases hl:p.block<w1.heap.size
  · rw [←h];unfold World.cell?;rw [b.block _ hl]
  · exfalso;have:w1.heap[p.block]? =none:=Array.getElem?_eq_none (by omega);simp [World.cell?,this] at h
theorem keepS {w1:World}{p:Addr}{v u:Value}{b i:Nat}(h:w1.cell? p=some v)(hne:p.block≠b):(w1.setCell ⟨b,i,none⟩ u).cell? p=some v:=by
  rw [←h];unfold World.cell?;simp [World.setCell,Array.getElem?_modify,Ne.symm hne]
theorem keepB {n:Nat}{w0 w1 w2:World}(h:Below n w0 w1)(hn:n≤w1.heap.size)(b:Bl w1 w2):Below n w0 w2:=h.trans (b.mono hn)
def R1 (W:World)(b:Nat)(y:Int):Prop:=W.heap[b]? =some (.cells #[int u64 y] 167)
section
variable {W W':World}{b:Nat}{y:Int}
theorem R1.cell (h:R1 W b y):W.cell? ⟨b,0,none⟩=some (int u64 y):=by unfold R1 at h;simp [World.cell?,h]
theorem R1.frz (h:R1 W b y):W.frozen? ⟨b,0,none⟩=false:=by unfold R1 at h;simp [World.frozen?,h]
theorem R1.lt (h:R1 W b y):b<W.heap.size:=(Array.getElem?_eq_some_iff.1 h).1
theorem R1.below {N:Nat}(h:R1 W b y)(hb:Below N W W')(hl:b<N):R1 W' b y:=(hb.block b hl).trans h
theorem R1.keep (h:R1 W b y)(hb:Bl W W'):R1 W' b y:=h.below hb h.lt
theorem R1.new (w:World)(y:Int):R1 (w.alloc (.cells #[int u64 y] 167)) w.heap.size y:=heap_alloc_new w _
theorem R1.alloc (h:R1 W b y)(o:Obj):R1 (W.alloc o) b y:=(Below.heap_alloc W o b h.lt).trans h
theorem R1.drew (h:R1 W b y):R1 W.drew b y:=h
theorem R1.range (h:R1 W b y):W.rangeAt b 0 [int u64 y]:=fun j v hj=>by
  match j,hj with
  |0,hj=>cases hj;exact h.cell
theorem R1.at {b':Nat}(h:R1 W b y)(e:b=b'):R1 W b' y:=e▸h
theorem R1.set (h:R1 W b y)(y':Int):R1 (W.setCell ⟨b,0,none⟩ (int u64 y')) b y':=by
  unfold R1 at*;simp [World.setCell,Array.getElem?_modify,h]
theorem R1.other (h:R1 W b y){b':Nat}(hne:b≠b')(i:Nat)(v:Value):R1 (W.setCell ⟨b',i,none⟩ v) b y:=by
  unfold R1 at*;rw [←h];simp [World.setCell,Array.getElem?_modify,Ne.symm hne]
theorem num_res {fn:Func}{p:Tmp}(h:fn.results=#[.cell p 167])(tmps:Array Value)(hp:tmps.getD p undef= .pointer (some ⟨b,0,none⟩))(hc:R1 W b y):
    (results fn tmps).run prog W= .ok (.agg #[int u64 y]) W:=
  results_mid h tmps W b 0 [int u64 y] _ hp hc.range underlying167 rfl (by kernel_rfl)
end
theorem mnP_lt (a b d c:Int)(w:World)(h:a<b)(hd:IntKind.u64.wrap (a-b)=d)(hc:IntKind.u64.wrap (d+2305843009213693951)=c):
    Cr 166 #[.agg #[int u64 a],.agg #[int u64 b]] w (.agg #[int u64 c]):=by
  have hme:=methP;have hf:=foldP;obtain⟨X,hX⟩:∃X,X=((w.alloc (Obj.cells #[int u64 a] 167)).alloc (Obj.cells #[int u64 b] 167)).alloc (Obj.cells #[int u64 0] 167):=⟨_,rfl⟩
  have hX0:X.heap[w.heap.size]? =some (.cells #[int u64 a] 167):=by
    rw [hX];exact(Below.heap_alloc _ _ _ (by simp;omega)).trans ((Below.heap_alloc _ _ _ (by simp)).trans (heap_alloc_new w _))
  have hp1:=partP hX0;have hX1:(X.alloc (Obj.cells #[] 165)).heap[w.heap.size]? =some (.cells #[int u64 a] 167):=(Below.heap_alloc _ _ _ (Array.getElem?_eq_some_iff.1 hX0).1).trans hX0;have hp2:=partP hX1;rw [hX] at hp1 hp2;clear hX hX0 hX1;go_enter func166,ntmps166;go_wp2_with fail;refine(valP _).mono ?_;rintro e w' ⟨rfl,rfl⟩;go_wp2;refine bodyPost_ret (v:= .agg #[int u64 c]) (by simp [results,results166,go_sem]) rfl ⟨rfl,?_⟩;exact((((Below.refl _ _).alloc (Nat.le_refl _) _).alloc (by simp) _).alloc (by simp;omega) _).alloc (by simp;omega) _
theorem mnP_ge (a b d:Int)(w:World)(h:b≤a)(hd:IntKind.u64.wrap (a-b)=d):
    Cr 166 #[.agg #[int u64 a],.agg #[int u64 b]] w (.agg #[int u64 d]):=by
  have hme:=methP;have hf:=foldP;have hlt: ¬ a<b:=by omega
  clear h;obtain⟨X,hX⟩:∃X,X=((w.alloc (Obj.cells #[int u64 a] 167)).alloc (Obj.cells #[int u64 b] 167)).alloc (Obj.cells #[int u64 0] 167):=⟨_,rfl⟩
  have hX0:X.heap[w.heap.size]? =some (.cells #[int u64 a] 167):=by
    rw [hX];exact(Below.heap_alloc _ _ _ (by simp;omega)).trans ((Below.heap_alloc _ _ _ (by simp)).trans (heap_alloc_new w _))
  have hp1:=partP hX0;rw [hX] at hp1;clear hX hX0;go_enter func166,ntmps166;go_wp2;refine bodyPost_ret (v:= .agg #[int u64 d]) (by simp [results,results166,go_sem]) rfl ⟨rfl,?_⟩;exact(((Below.refl _ _).alloc (Nat.le_refl _) _).alloc (by simp) _).alloc (by simp;omega) _
theorem mnP_any (a b c:Int)(w:World)(ha0:0≤a)(ha:a<2305843009213693951)(hb0:0≤b)(hb:b<2305843009213693951)(hc:c=if a<b then a-b+2305843009213693951 else a-b):
    Cr 166 #[.agg #[int u64 a],.agg #[int u64 b]] w (.agg #[int u64 c]):=by
  by_cases h:a<b
  · rw [if_pos h] at hc;exact mnP_lt a b (a-b+18446744073709551616) c w h (by rw [IntKind.wrap_u64];omega) (by rw [IntKind.wrap_u64];omega)
  · rw [if_neg h] at hc;exact mnP_ge a b c w (by omega) (by rw [IntKind.wrap_u64];omega)
theorem ngP_of (a c:Int)(w:World)
    (M:Cc 166 #[.agg #[int u64 0],.agg #[int u64 a]] (.agg #[int u64 c])):
    Cr 199 #[.agg #[int u64 a]] w (.agg #[int u64 c]):=by
  have hf:=foldP;obtain⟨X,hX⟩:∃X,X=(w.alloc (Obj.cells #[int u64 a] 167)).alloc (Obj.cells #[int u64 0] 167):=⟨_,rfl⟩
  have hX0:X.heap[w.heap.size]? =some (.cells #[int u64 a] 167):=by
    rw [hX];exact(Below.heap_alloc _ _ _ (by simp)).trans (heap_alloc_new w _)
  have hp1:=partP hX0;have hr:R1 X (w.heap.size+1) 0:=by rw [hX];exact(R1.new _ 0).at (by simp)
  have hbX:Bl w X:=by rw [hX];exact((Below.refl _ w).alloc (Nat.le_refl _) _).alloc (by simp) _
  rw [hX] at hp1 hr hbX;clear hX hX0;go_enter func199,ntmps199;go_wp2_with fail;refine(M _).mono ?_;rintro e w' ⟨rfl,hb⟩;have hr1:=hr.keep hb;have cc:=hr1.cell;have ff:=hr1.frz;have hb2:=keepB hbX (by simp;omega) hb;clear hb hbX hr hp1;go_wp2;exact bodyPost_ret (v:= .agg #[int u64 c]) (num_res (fn:=Tryz.f199) (p:=2) results199 _ rfl (hr1.set c)) rfl ⟨rfl,hb2.setCell (p:=⟨w.heap.size+1,0,none⟩) (by simp) _⟩
theorem plP_of (a b d c:Int)(w:World)
    (N:Cc 199 #[.agg #[int u64 b]] (.agg #[int u64 d]))
    (M:Cc 166 #[.agg #[int u64 a],.agg #[int u64 d]] (.agg #[int u64 c])):
    Cr 168 #[.agg #[int u64 a],.agg #[int u64 b]] w (.agg #[int u64 c]):=by
  obtain⟨X,hX⟩:∃X,X=(((w.alloc (Obj.cells #[int u64 a] 167)).alloc (Obj.cells #[int u64 b] 167)).alloc (Obj.cells #[int u64 0] 167)).drew:=⟨_,rfl⟩;have hr:R1 X (w.heap.size+1+1) 0:=by rw [hX];exact((R1.new _ 0).drew).at (by simp)
  have hbX:Bl w X:=by rw [hX];exact((((Below.refl _ w).alloc (Nat.le_refl _) _).alloc (by simp) _).alloc (by simp;omega) _).drew
  have hl:w.heap.size≤X.heap.size:=hbX.size;rw [hX] at hr hbX hl;clear hX;go_enter func168,ntmps168;go_wp2
  go_region_held3 (fun w'=>w'.cell? ⟨w.heap.size,0,none⟩=some (int u64 a)∧w'.cell? ⟨w.heap.size+1,0,none⟩=some (int u64 b)) (first|exact ⟨keepC (keepC (by simp [go_sem]) b1) b2,keepC (keepC (by simp [go_sem]) b1) b2⟩|exact ⟨keepC (by simp [go_sem]) b1,keepC (by simp [go_sem]) b1⟩|exact ⟨keepS (keepC (keepC (by simp [go_sem]) b1) b2) (by simp;omega),keepS (keepC (keepC (by simp [go_sem]) b1) b2) (by simp)⟩|go_keep) (first
    |(go_at_call 199;refine(N _).mono ?_;rintro e w1 ⟨rfl,b1⟩)
    |(go_at_call 166;refine(M _).mono ?_;rintro e w2 ⟨rfl,b2⟩;have hr2:=(hr.keep b1).keep b2;have cc:=hr2.cell;have ff:=hr2.frz))
  go_wp2;have hb2:=keepB (keepB hbX hl b1) (Nat.le_trans hl b1.size) b2;exact bodyPost_ret (v:= .agg #[int u64 c]) (num_res (fn:=Tryz.f168) (p:=4) results168 _ rfl (hr2.set c)) rfl ⟨rfl,hb2.setCell (p:=⟨w.heap.size+1+1,0,none⟩) (by simp;omega) _⟩
section
open Go.Shelf
attribute [local go_sem] Oper.semAt_some
def bitsF (e L:Nat):Nat→List Bool
  |0=> []
  |j+1=>bitsF e L j++ [decide (e/2^(L-(j+1))%2=1)]
theorem bitsF_length (e L:Nat):∀j,(bitsF e L j).length=j
  |0=>rfl
  |j+1=>by simp [bitsF,bitsF_length e L j]
theorem and1 (z:Nat)(h:z<18446744073709551616):bits .and .u64 (z:Int) 1=((z%2:Nat):Int):=by
  have:=bits_and_u64_nat z 1 h (by decide);rwa [show z&&&1=z%2 from Nat.and_two_pow_sub_one_eq_mod z 1] at this
theorem bit_eq (e i:Nat)(he:e<18446744073709551616):(bits .and .u64 ((e:Int)/2^i) 1==1)=decide (e/2^i%2=1):=by
  have e1:(e:Int)/2^i=((e/2^i:Nat):Int):=by simp
  rw [e1,and1 _ (Nat.lt_of_le_of_lt (Nat.div_le_self _ _) he)];generalize e/2^i%2=z;by_cases h:z=1
  · subst h;rfl
  · simp [h];omega
theorem bit_stops (n:Nat)(hn:1≤n)(e Be:Nat)(he:e<18446744073709551616)(w:World)(hc:w.cell? ⟨Be,0,none⟩=some (int u64 e))(hB:Be<w.heap.size):
    SeqStopsK Fence.wide n prog 200 #[.pointer (some ⟨Be,0,none⟩)] (fun b:Bool=>#[.bool b]) (fun W W'=>W.cell? ⟨Be,0,none⟩=some (int u64 e)→W'.cell? ⟨Be,0,none⟩=some (int u64 e))
      (fun xs=>xs=bitsF e (Lib.bitLen e) (Lib.bitLen e)) (fun _=>True) 64 w:=fun l J Jx W hW _ _ hY h0=>by
  have hcW:W.cell? ⟨Be,0,none⟩=some (int u64 e):=(hW.cell (p:=⟨Be,0,none⟩) hB).trans hc;have hL:=len_nat e he;have hl:=len_le e (by omega);have hbe:=bit_eq e;generalize Lib.bitLen e=L at*;refine callsIn_of_wp func200 rfl trivial ?_ rfl;simp only [ntmps200,List.size_toArray,List.length_cons,List.length_nil,Nat.reduceAdd,Nat.reduceSub,Array.replicate_succ,Array.replicate_zero,List.push_toArray,List.append_toArray,List.nil_append,List.cons_append]
  gi_wp2_with (refine⟨trivial,?_⟩;gi_at_call 201;refine(callsIn_wide.2 (hL _)).mono ?_;rintro e w' ⟨rfl,rfl⟩)
  clear hL
  gi_loopw [3] (fun i wr=>∃(k:Nat) (x:Int),x=(k:Int)-1∧k≤L∧i= .int .i64 x∧wr.cell? ⟨Be,0,none⟩=some (int u64 e)∧J (bitsF e L (L-k)) wr) (fun i _=>(intOf i+1).toNat)
  case atStart=>exact ⟨L,(L:Int)-1,rfl,Nat.le_refl _,rfl,hcW,by rw [Nat.sub_self];exact h0⟩
  case round=>
    obtain⟨k,x,hx,hk,rfl,hcr,hJ⟩:=hrel;rcases k with _|j
    · have hneg: ¬ ((0:Int)≤x):=by omega
      clear hx
      gi_wp2
      go_end0
      exact⟨⟨_,rfl⟩,.inl hJ⟩
    · obtain rfl:x=(j:Int):=by omega
      clear hx;have hbj:=hbe j he
      have hst:bitsF e L (L-j)=bitsF e L (L-(j+1))++ [decide (e/2^j%2=1)]:=by
        have e1:L-j=L-(j+1)+1:=by omega
        rw [e1,bitsF,show L-(L-(j+1)+1)=j by omega]
      generalize decide (e/2^j%2=1)=bb at*;obtain⟨fn,tmps,assign,body,hy,hR⟩:=hY _ bb wr hJ (by rw [bitsF_length];omega);rw [←hst] at hR;clear hY hbe hst
      gi_wp2
      refine hR.mono ?_;rintro e' W3 (⟨rfl,hJ3,hk3⟩|⟨rfl,hJx3⟩)
      · have hc3:=hk3 hcr
        gi_wp2
        go_roundw
        case rel=>exact ⟨j,(j:Int)-1,rfl,by omega,rfl,hc3,hJ3⟩
        case measure=>simp [intOf]
      · gi_wp2
        refine bodyPost_ret (results_none rfl _ _ _) rfl ?_;exact⟨⟨_,rfl⟩,.inr ⟨_,trivial,hJx3⟩⟩
theorem bits_of (e:Nat)(w:World):
    Calls prog 169 #[int u64 e] w fun r w'=>r= .returned (.func (.func 200) #[] #[.pointer (some ⟨w.heap.size,0,none⟩)])∧w'=w.alloc (.cells #[int u64 e] 22):=by
  go_enter func169,ntmps169;go_wp2;go_ret;exact⟨rfl,rfl⟩
end
section
open Go.Shelf
attribute [local go_sem] Oper.semAt_some
def valB (l:List Bool):Nat:=l.foldl (fun v b=>2*v+b.toNat) 0
theorem valB_snoc (l:List Bool)(b:Bool):valB (l++ [b])=2*valB l+b.toNat:=by simp [valB]
theorem valB_bits (e L:Nat):∀j,j≤L→e/2^L=0→valB (bitsF e L j)=e/2^(L-j)
  |0,_,h=>by simp [bitsF,valB,h]
  | j+1,hj,h=>by
    rw [bitsF,valB_snoc,valB_bits e L j (by omega) h];have e1:L-j=L-(j+1)+1:=by omega
    rw [e1];generalize L-(j+1)=i;have:e/2^(i+1)=e/2^i/2:=by rw [Nat.pow_succ,Nat.div_div_eq_div_mul]
    rw [this];generalize e/2^i=z;by_cases hz:z%2=1
    · simp [hz];omega
    · simp [hz];omega
theorem valB_all (e:Nat)(he:e<2^64):valB (bitsF e (Lib.bitLen e) (Lib.bitLen e))=e:=by
  have h:e<2^Lib.bitLen e:=len_up 64 e he;rw [valB_bits e _ _ (Nat.le_refl _) (Nat.div_eq_of_lt h),Nat.sub_self,Nat.pow_zero,Nat.div_one]
theorem cell_new1 (w:World)(v:Value)(t:TypeId){b:Nat}(e:w.heap.size=b):(w.alloc (.cells #[v] t)).cell? ⟨b,0,none⟩=some v:=by subst e;rw [World.cell?,World.alloc_heap_new w _];rfl
theorem setCell_heap (W:World)(b i:Nat)(v:Value)(k:Nat)(h:k≠b):(W.setCell ⟨b,i,none⟩ v).heap[k]? =W.heap[k]? :=by
  simp [World.setCell,Array.getElem?_modify,Ne.symm h]
theorem keeps_below {W W':World}(h:Bl W W'):KeepsOthers W W':=⟨h.size,fun k o hk _=>(h.block k (Array.getElem?_eq_some_iff.1 hk).1).trans hk⟩
theorem pow_step0 (a m c d v:Nat)(hc:c=a^v%m)(hd:d=c*c%m):d=a^(2*v)%m:=by
  rw [hd,hc,Nat.two_mul,Nat.pow_add,←Nat.mul_mod]
theorem pow_step1 (a m c d d2 v:Nat)(hc:c=a^v%m)(hd:d=c*c%m)(hd2:d2=d*a%m):d2=a^(2*v+1)%m:=by
  rw [hd2,pow_step0 a m c d v hc hd,Nat.mod_mul_mod,Nat.pow_succ]
end
end Go.Proofs.YtjhbckngdclleaaGreatDoor
