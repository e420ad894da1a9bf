import Derived.Test.YtjhbckngdclleaaGreatDoorMrg22
import Derived.Test.YtjhbckngdclleaaGreatDoorMrg18
set_option linter.unusedVariables false
set_option maxRecDepth 100000
set_option maxHeartbeats 16000000
namespace Go.Proofs.YtjhbckngdclleaaGreatDoor
open Go.Proofs.Tryz Go.RowKit
open Go.Value (int)
open Go.IntKind (u64)
section
open M
theorem rt_ex (x:Fp):∃rb:Fp×Bool,
    (∀w,Calls prog 205 #[int u64 (fv x)] w fun e w'=>e= .returned (.tuple #[int u64 (fv rb.1),.bool rb.2])∧w=w')∧
    (Cc 232 #[.agg #[int u64 (fv x)]] (.tuple #[.agg #[int u64 (fv rb.1)],.bool rb.2]))∧
    (rb.2=false→∀y:Fp,y*y≠x)∧(rb.2=true→rb.1*rb.1=x):=by
  obtain⟨r,b,h1,h2,h3,h4,h5⟩:=ev_both x.val (val_lt x);refine⟨(⟨r,h3⟩,b),h1,h2,fun hb y hy=>(h4 hb).2 y.val ?_,fun hb=> ?_⟩
  · rw [←hy,Fin.val_mul]
  · apply Fin.ext;rw [Fin.val_mul];exact(h5 hb).2
noncomputable def rtV (x:Fp):Fp:=(Classical.choose (rt_ex x)).1
noncomputable def rtB (x:Fp):Bool:=(Classical.choose (rt_ex x)).2
noncomputable def mXX (u:Fp):Fp:=if rtB (crv (mX u)) then mX u else mS u*mX u
noncomputable def mYY (u:Fp):Fp:=rtV (crv (mXX u))
noncomputable def mYo (u:Fp):Fp:=if (fv u%2==1) then 0-mYY u else mYY u
def toF (v:Nat):Fp:=Fin.ofNat _ v
end
section
variable {P:Program}{ops:Array Oper}{Q:Exit→Act→World→Prop}{md:Region.Mode}{kind:Nat→Knd}{a0:Act}{uses:Nat→List Nat}
theorem any_until (m:Nat)(I:Array Bool→Act→World→Prop)
    (stop:∀fuel l a w,I l a w→(∀j,j<m→l.getD j false=true)→l.toList.count false≤fuel→wpAny P md ops Q fuel l a w)
    (stuck:∀l a w,I l a w→(¬ ∀j,j<m→l.getD j false=true)→Region.ready md ops l≠ [])
    (step:∀l a w i,I l a w→(¬ ∀j,j<m→l.getD j false=true)→i∈Region.ready md ops l→wpOp P ops Q i (I (l.setIfInBounds i true)) a w):
    ∀fuel l a w,l.toList.count false≤fuel→I l a w→wpAny P md ops Q fuel l a w:=by
  intro fuel
  induction fuel with
  | zero=>
    intro l a w hc hI;by_cases hm:∀j,j<m→l.getD j false=true
    · exact stop 0 l a w hI hm hc
    · exfalso
      cases hr:Region.ready md ops l with
      |nil=>exact stuck l a w hI hm hr
      | cons i r=>
        obtain⟨h1,h2,-,-⟩:=ready_get (i:=i) (md:=md) (ops:=ops) (l:=l) (by rw [hr];simp)
        have:false∈l.toList:=by
          rw [Array.getD_eq_getD_getElem?,Array.getElem?_eq_getElem h1] at h2;rw [←show l[i]=false from h2];exact Array.mem_toList_iff.2 (Array.getElem_mem h1)
        have:=List.count_pos_iff.2 this;omega
  | succ fuel ih=>
    intro l a w hc hI;by_cases hm:∀j,j<m→l.getD j false=true
    · exact stop _ l a w hI hm hc
    · refine⟨fun hr=>absurd hr (stuck l a w hI hm),fun i hi=> ?_⟩;refine wpOp_mono (fun a w hI'=>ih _ a w ?_ hI') (step l a w i hI hm hi);obtain⟨h1,h2,-,-⟩:=ready_get hi
      have h3:l.toList[i]? =some false:=by
        rw [Array.getD_eq_getD_getElem?] at h2;rw [Array.getElem?_toList,Array.getElem?_eq_getElem h1] at*;simpa using h2
      have:=count_set h3;rw [Array.toList_setIfInBounds];omega
theorem upto_eq {l:Array Bool}{n m:Nat}(hs:l.size=n)(h1:∀j,j<m→l.getD j false=true)(h2:∀j,m≤j→l.getD j false=false):l=upto n m:=by
  apply Array.ext
  · rw [hs];simp [upto]
  · intro i hi _;have h3:l.getD i false=l[i]:=by rw [Array.getD_eq_getD_getElem?,Array.getElem?_eq_getElem hi];rfl
    have h4:(upto n m)[i]=decide (i<m):=by simp [upto]
    rw [h4,←h3];by_cases h:i<m
    · rw [h1 i h,decide_eq_true h]
    · rw [h2 i (by omega),decide_eq_false h]
theorem count_upto (n m:Nat)(h:m≤n):(upto n m).toList.count false=n-m:=by
  have:(upto n m).toList=List.replicate m true++List.replicate (n-m) false:=by
    apply List.ext_getElem
    · simp [upto];omega
    · intro i h1 h2;by_cases hi:i<m
      · simp [upto,hi]
      · simp [upto,hi,List.getElem_append]
  rw [this];simp [List.count_append,List.count_replicate]
theorem op_go {i:Nat}{o:Oper}{a:Act}{w:World}{K:Act→World→Prop}{R:Value→World→Prop}(ho:ops[i]? =some o)(hg:o.guard=none)
    (hd:Does P o a w R)(h:∀v w',R v w'→K (a.put o.dst v) w'):wpOp P ops Q i K a w:=by
  unfold wpOp;simp only [ho];rw [if_pos (by unfold Region.wanted;rw [hg])];exact .inl (hd _ _ h)
end
section
open M
noncomputable def mapP (u:Nat):Pt:=some (mXX (toF u),mYo (toF u))
noncomputable def hPt (msg tag:ByteArray):Pt:=ad (mapP (hNum msg tag 2305843009213693951 2 0)) (mapP (hNum msg tag 2305843009213693951 2 1))
def grpW:ByteArray:=⟨#[72,97,115,104,84,111,71,114,111,117,112,45]⟩
noncomputable def hsh (mode:Int) (input:ByteArray):Pt:=hPt input (tagB grpW mode.toNat)
end
end Go.Proofs.YtjhbckngdclleaaGreatDoor
