import Derived.Test.YtjmhmajfkdglnabGreatDoorMrg33
set_option linter.unusedVariables false
set_option maxRecDepth 100000
set_option maxHeartbeats 16000000
namespace Go.Proofs.YtjmhmajfkdglnabGreatDoor
open Go.Proofs.Tryz Go.RowKit
open Go.Value (int)
open Go.IntKind (u64)
section
open M
def P2 (W:World)(t:TypeId)(b:Nat)(x y:Int):Prop:=W.heap[b]? =some (.cells #[int u64 x,int u64 y] t)
section
variable {W W':World}{t:TypeId}{b:Nat}{x y:Int}
theorem P2.c0 (h:P2 W t b x y):W.cell? ⟨b,0,none⟩=some (int u64 x):=by unfold P2 at h;simp [World.cell?,h]
theorem P2.c1 (h:P2 W t b x y):W.cell? ⟨b,1,none⟩=some (int u64 y):=by unfold P2 at h;simp [World.cell?,h]
theorem P2.frz (h:P2 W t b x y)(i:Nat):W.frozen? ⟨b,i,none⟩=false:=by unfold P2 at h;simp [World.frozen?,h]
theorem P2.lt (h:P2 W t b x y):b<W.heap.size:=(Array.getElem?_eq_some_iff.1 h).1
theorem P2.keep (h:P2 W t b x y)(hb:Bl W W'):P2 W' t b x y:=(hb.block b h.lt).trans h
theorem P2.new (w:World)(t:TypeId)(x y:Int):P2 (w.alloc (.cells #[int u64 x,int u64 y] t)) t w.heap.size x y:=heap_alloc_new w _
theorem P2.at {b':Nat}(h:P2 W t b x y)(e:b=b'):P2 W t b' x y:=e▸h
theorem P2.range (h:P2 W t b x y):W.rangeAt b 0 [int u64 x,int u64 y]:=fun j v hj=>by
  match j,hj with
  |0,hj=>cases hj;exact h.c0
  |1,hj=>cases hj;exact h.c1
theorem P2.set (h:P2 W t b x y)(x' y':Int):P2 ((W.setCell ⟨b,0,none⟩ (int u64 x')).setCell ⟨b,1,none⟩ (int u64 y')) t b x' y':=by
  unfold P2 at*;simp [World.setCell,Array.getElem?_modify,h]
theorem P2_below {N:Nat}{w:World}(h:Below N w W)(hb:N≤b)(u v:Value):Below N w ((W.setCell ⟨b,0,none⟩ u).setCell ⟨b,1,none⟩ v):=(h.setCell (p:=⟨b,0,none⟩) hb _).setCell (p:=⟨b,1,none⟩) hb _
end
noncomputable def prvC (md k r:Nat) (a b:Tri) (cs ds:List Tri):Nat:=chal md (asT b) (comM md b cs ds cs) (nt k (comM md b cs ds cs)) (nt r (asT a)) (nt r (comM md b cs ds cs))
noncomputable def prvN (md k r:Nat) (a b:Tri) (cs ds:List Tri):Nat:=(r+(2305843010818082053-prvC md k r a b cs ds*k%2305843010818082053)%2305843010818082053)%2305843010818082053
theorem prvC_lt (md k r:Nat)(a b:Tri)(cs ds:List Tri):prvC md k r a b cs ds<2305843010818082053:=scaN_lt _ _
noncomputable def chkC (md c s:Nat) (a b:Tri) (cs ds:List Tri):Nat:=chal md (asT b) (comM md b cs ds cs) (comM md b cs ds ds) (ad (nt s (asT a)) (nt c (asT b))) (ad (nt s (comM md b cs ds cs)) (nt c (comM md b cs ds ds)))
noncomputable def chkB (mode:Int) (a b:Tri) (cs ds:List Tri) (c s:Nat):Bool:=batB mode a b cs ds&&decide (c<2305843010818082053)&&decide (s<2305843010818082053)&&decide (c=chkC mode.toNat c s a b cs ds)
def gT:Tri:=(1,509478702933351334,false)
theorem toT_g:toPt gT.1 gT.2.1 gT.2.2=some gG:=toPt_self (X:=(1:Fp)) (Y:=(509478702933351334:Fp)) gG_on
theorem asT_g:asT gT=gG:=by
  unfold asT asPt;rw [toT_g];rfl
theorem onT_g:onT gT=true:=by
  unfold onT;rw [toT_g];rfl
noncomputable def evB (es:List Tri) (pc ps:Nat):Bool:=match es with
  | [t]=>elT t&&decide (pc<2305843010818082053)&&decide (ps<2305843010818082053)
  |_=>false
noncomputable def twB (mode:Int) (t:Tri):Bool:=if mode=2 then elT t else decide (t=(0,0,true))
noncomputable def rdyB (mode:Int) (blind:Nat) (es:List Tri) (pc ps:Nat) (t1 t2 tp:Tri):Bool:=keyB blind&&elT tp&&evB es pc ps&&elT t1&&twB mode t2
noncomputable def verB (mode:Int) (es:List Tri) (pc ps:Nat) (t1 t2 tp:Tri):Bool:=if mode=1 then chkB 1 gT tp [t1] es pc ps else if mode=2 then chkB 2 gT t2 es [t1] pc ps else true
noncomputable def finC (mode:Int) (input info:ByteArray) (blind:Nat) (es:List Tri) (pc ps:Nat) (t1 t2 tp:Tri):Int:=
  if txtB mode input.size info.size=true∧rdyB mode blind es pc ps t1 t2 tp=true then (if verB mode es pc ps t1 t2 tp=true then 0 else 4) else 1
noncomputable def finO (mode:Int) (input info:ByteArray) (blind:Nat) (es:List Tri) (pc ps:Nat) (t1 t2 tp:Tri):ByteArray:=
  if finC mode input info blind es pc ps t1 t2 tp=0 then outB mode input info (nt (M.ivn 2305843010818082053 blind) (asT (es.headD gT))) else ⟨#[]⟩
theorem evB_one {es:List Tri}{pc ps:Nat}(h:evB es pc ps=true):∃t,es= [t]∧elT t=true∧pc<2305843010818082053∧ps<2305843010818082053:=by
  match es,h with
  | [t],h=>
    unfold evB at h;simp only [Bool.and_eq_true,decide_eq_true_eq] at h;exact⟨t,rfl,h.1.1,h.1.2,h.2⟩
theorem evB_single (t:Tri)(pc ps:Nat):evB [t] pc ps=(elT t&&decide (pc<2305843010818082053)&&decide (ps<2305843010818082053)):=rfl
theorem rdyB_iff {mode:Int}{blind:Nat}{es:List Tri}{pc ps:Nat}{t1 t2 tp:Tri}:rdyB mode blind es pc ps t1 t2 tp=true↔keyB blind=true∧elT tp=true∧evB es pc ps=true∧elT t1=true∧twB mode t2=true:=by
  unfold rdyB;simp only [Bool.and_eq_true,and_assoc]
theorem mix_nt {ws:List Int}{ps:List Pt}(h:∀p∈ps,on p)(k:Nat):∀n,mixTo ws (ps.map (nt k)) n=nt k (mixTo ws ps n)
  |0=>(nt_none k).symm
  | n +1=>by
    have hp:on (ps.getD n none):=by
      rw [List.getD_eq_getElem?_getD]
      cases hn:ps[n]? with
      |none=>trivial
      |some p=>exact h p (List.mem_of_getElem? hn)
    have e:(ps.map (nt k)).getD n none=nt k (ps.getD n none):=by
      rw [List.getD_eq_getElem?_getD,List.getD_eq_getElem?_getD,List.getElem?_map]
      cases ps[n]? with
      |none=>exact (nt_none k).symm
      |some p=>rfl
    rw [mixTo,mixTo,mix_nt h k n,e,nt_ad (mixTo_on h n) (nt_on hp _),nt_mul hp,nt_mul hp,Nat.mul_comm]
theorem back_n {p:Pt}(hp:on p)(r c k:Nat):ad (nt ((r+(2305843010818082053-c*k%2305843010818082053)%2305843010818082053)%2305843010818082053) p) (nt c (nt k p))=nt r p:=by
  rw [nt_mod hp,nt_mul hp,←nt_add hp,←nt_mod hp,←nt_mod hp r];congr 1;generalize c*k=x;omega
theorem chk_prv (md k r:Nat)(a b:Tri)(cs ds:List Tri)(hb:asT b=nt k (asT a))(hd:ds.map asT=(cs.map asT).map (nt k)):
    chkC md (prvC md k r a b cs ds) (prvN md k r a b cs ds) a b cs ds=prvC md k r a b cs ds:=by
  have e:comM md b cs ds ds=nt k (comM md b cs ds cs):=by
    unfold comM;rw [←mix_nt (asT_list cs) k,←hd]
  have e2:ad (nt (prvN md k r a b cs ds) (asT a)) (nt (prvC md k r a b cs ds) (nt k (asT a)))=nt r (asT a):=back_n (asT_on a) r _ k;have e3:ad (nt (prvN md k r a b cs ds) (comM md b cs ds cs)) (nt (prvC md k r a b cs ds) (nt k (comM md b cs ds cs)))=nt r (comM md b cs ds cs):=back_n (comM_on md b cs ds cs) r _ k;unfold chkC;rw [e,hb,e2,e3,←hb];rfl
theorem prvN_lt (md k r:Nat)(a b:Tri)(cs ds:List Tri):prvN md k r a b cs ds<2305843010818082053:=Nat.mod_lt _ (by decide)
theorem chkB_prv (md k r:Nat)(a b:Tri)(cs ds:List Tri)(hB:batB md a b cs ds=true)(hb:asT b=nt k (asT a))(hd:ds.map asT=(cs.map asT).map (nt k)):
    chkB md a b cs ds (prvC md k r a b cs ds) (prvN md k r a b cs ds)=true:=by
  unfold chkB;rw [hB,decide_eq_true (prvC_lt md k r a b cs ds),decide_eq_true (prvN_lt md k r a b cs ds),Int.toNat_natCast,chk_prv md k r a b cs ds hb hd];simp
noncomputable def ptT (p:Pt):Tri:=((px p).toNat,(py p).toNat,pb p)
end
end Go.Proofs.YtjmhmajfkdglnabGreatDoor
