import Derived.Test.YtnfbfpegagcanaaMrg13
set_option linter.unusedVariables false
set_option maxRecDepth 100000
set_option maxHeartbeats 16000000
namespace Go.Proofs.Ytnfbfpegagcanaa
open Go.Proofs.Try Go.RowKit
open Go.Value (int)
open Go.IntKind (u64)
section
open M
theorem csqP (x:Fp)(w:World):
    Cr 47 #[.agg #[int u64 (fv x)]] w (.agg #[int u64 (fv ((x*x-3)*x+111))]):=by
  obtain⟨X,hX⟩:∃X,X=((w.alloc (Obj.cells #[int u64 (fv x)] 81)).alloc (Obj.cells #[int u64 0] 81)).alloc (Obj.cells #[] 79):=⟨_,rfl⟩;have hx:R1 X w.heap.size (fv x):=by rw [hX];exact((R1.new w _).alloc _).alloc _
  have hr:R1 X (w.heap.size+1) 0:=by rw [hX];exact((R1.new _ 0).at (by simp)).alloc _
  have hb:Bl w X:=by rw [hX];exact(((Below.refl _ w).alloc (Nat.le_refl _) _).alloc (by simp) _).alloc (by simp;omega) _
  rw [hX] at hx hr hb;clear hX;go_enter func47,ntmps47;go_wp2
  refine pool_tail [.val (.agg #[int u64 (fv x)]),
    .val (.agg #[int u64 (fv x)]),
    .val (.agg #[int u64 (fv (x*x))]),
    .val (.agg #[]),
    .val (.agg #[int u64 (fv 3)]),
    .val (.agg #[int u64 (fv (x*x-3))]),
    .val (.agg #[int u64 (fv x)]),
    .val (.agg #[int u64 (fv ((x*x-3)*x))]),
    .val (.agg #[]),
    .val (.agg #[int u64 (fv 111)]),
    .val (.agg #[int u64 (fv ((x*x-3)*x+111))]),
    .val undef] [[1],[1],[5,6],[3],[8],[7,9],[1],[10,11],[3],[13],[12,14],[2,15]] (fun f=> [(some 5,.agg #[int u64 (fv x)]),(some 6,.agg #[int u64 (fv x)]),(some 7,.agg #[int u64 (fv (x*x))]),(some 8,.agg #[]),(some 9,.agg #[int u64 (fv 3)]),(some 10,.agg #[int u64 (fv (x*x-3))]),(some 11,.agg #[int u64 (fv x)]),(some 12,.agg #[int u64 (fv ((x*x-3)*x))]),(some 13,.agg #[]),(some 14,.agg #[int u64 (fv 111)]),(some 15,.agg #[int u64 (fv ((x*x-3)*x+111))])]) (fun f=> [(2,.pointer (some ⟨w.heap.size+1,0,none⟩)),(15,.agg #[int u64 (fv ((x*x-3)*x+111))])]) (by kernel_rfl) (by kernel_rfl) (by kernel_rfl) (by kernel_rfl) (by kernel_rfl) (fun _=>by kernel_rfl) ?_ rfl (fun _=>by kernel_rfl) ?_
  · intro ix hix
    match ix,hix with
    |0,_=>exact obv [(1,.pointer (some ⟨w.heap.size,0,none⟩))] rfl rfl (fun A w ⟨e0,_⟩ hB=>do_loadN e0 hx.drew hB)
    |1,_=>exact obv [(1,.pointer (some ⟨w.heap.size,0,none⟩))] rfl rfl (fun A w ⟨e0,_⟩ hB=>do_loadN e0 hx.drew hB)
    |2,_=>exact obv [(5,.agg #[int u64 (fv x)]),(6,.agg #[int u64 (fv x)])] rfl rfl (fun A w ⟨e0,e1,_⟩ hB=>do_call2 cf_times e0 e1 (tmV x x w))
    |3,_=>exact obv [(3,.pointer (some ⟨w.heap.size+1+1,0,none⟩))] rfl rfl (fun A w ⟨e0,_⟩ hB=>do_load0 e0)
    |4,_=>exact obv [(8,.agg #[])] rfl rfl (fun A w ⟨e0,_⟩ hB=>do_call2 cf_reduced rfl e0 (rd3 w))
    |5,_=>exact obv [(7,.agg #[int u64 (fv (x*x))]),(9,.agg #[int u64 (fv 3)])] rfl rfl (fun A w ⟨e0,e1,_⟩ hB=>do_call2 cf_minus e0 e1 (mnV (x*x) 3 w))
    |6,_=>exact obv [(1,.pointer (some ⟨w.heap.size,0,none⟩))] rfl rfl (fun A w ⟨e0,_⟩ hB=>do_loadN e0 hx.drew hB)
    |7,_=>exact obv [(10,.agg #[int u64 (fv (x*x-3))]),(11,.agg #[int u64 (fv x)])] rfl rfl (fun A w ⟨e0,e1,_⟩ hB=>do_call2 cf_times e0 e1 (tmV (x*x-3) x w))
    |8,_=>exact obv [(3,.pointer (some ⟨w.heap.size+1+1,0,none⟩))] rfl rfl (fun A w ⟨e0,_⟩ hB=>do_load0 e0)
    |9,_=>exact obv [(13,.agg #[])] rfl rfl (fun A w ⟨e0,_⟩ hB=>do_call2 cf_reduced rfl e0 (rd111 w))
    |10,_=>exact obv [(12,.agg #[int u64 (fv ((x*x-3)*x))]),(14,.agg #[int u64 (fv 111)])] rfl rfl (fun A w ⟨e0,e1,_⟩ hB=>do_call2 cf_plus e0 e1 (plV ((x*x-3)*x) 111 w))
    |ix+11,h=>exact absurd h (by simp)
  rintro f A w9 ⟨e0,e1,_⟩ hB _;replace hr:=(hr.drew).keep hB;replace hb:=keepB hb.drew hb.size hB;refine does_skip (exec_store e0 e1 hr) ?_;simp only [puts,List.foldl,Act.put,List.setIfInBounds_toArray,List.set_cons_zero,List.set_cons_succ];go_wp2;exact bodyPost_ret (v:= .agg #[int u64 (fv ((x*x-3)*x+111))]) (num_res (fn:=Try.f47) (p:=2) results47 _ rfl (hr.set _)) rfl ⟨rfl,hb.setCell (p:=⟨w.heap.size+1,0,none⟩) (by simp) _⟩
theorem csqV (x:Fp)(w:World):
    Cr 47 #[.agg #[int u64 (fv x)]] w (.agg #[int u64 (fv (crv x))]):=by
  have:=csqP x w;rwa [show (x*x-3)*x+111=crv x by unfold crv;grobner] at this
theorem cp_ct {W:World}{b:Nat}{x y:Int}{c:Bool}{fn:Func}{p u:Tmp}(h:fn.results=#[.cell p 50,.tmp u])(tmps:Array Value)
    (hp:tmps.getD p undef= .pointer (some ⟨b,0,none⟩))(hc:K3 W 50 b x y c):
    (results fn tmps).run prog W= .ok (.tuple #[.agg #[int u64 x,int u64 y,.bool c],tmps.getD u undef]) W:=by
  have hp':tmps[p]?.getD undef= .pointer (some ⟨b,0,none⟩):=by simpa using hp
  simp [results,h,hp',asAddr,run_loadVar_mid W b 0 50 [int u64 x,int u64 y,.bool c] _ hc.range underlying50 rfl (by kernel_rfl)]
end
end Go.Proofs.Ytnfbfpegagcanaa
