import Derived.Test.YtijmldjijnpnoaaDoorMrg17
set_option linter.unusedVariables false
set_option maxRecDepth 100000
set_option maxHeartbeats 16000000
namespace Go.Proofs.YtijmldjijnpnoaaDoor
open Go.Proofs.Tryd Go.RowKit
open Go.Value (int)
open Go.IntKind (u64)
section
open M
theorem fndW (x y:Nat)(c:Bool)(w:World):
    Cr 30 #[.agg #[int u64 x,int u64 y,.bool c]] w (.tuple #[.agg #[int u64 (px (asPt x y c)),int u64 (py (asPt x y c)),.bool (pb (asPt x y c))],.bool (toPt x y c).isSome]):=by
  have:=fndV x y c w;rwa [ptW_eq] at this
theorem putP_of (x y p q n:Int)(c pb ok:Bool)(s:ByteArray)(w:World)
    (F1:Cc 30 #[.agg #[int u64 x,int u64 y,.bool c]] (.tuple #[.agg #[int u64 p,int u64 q,.bool pb],.bool ok]))
    (Wd:Cc 32 #[.agg #[int u64 p,int u64 q,.bool pb]] (int u64 n))
    (Pw:Cc 31 #[int u64 n] (.string s)):
    Cr 16 #[.agg #[int u64 x,int u64 y,.bool c]] w (.string s):=by
  have hb:=balc w (Obj.cells #[int u64 x,int u64 y,.bool c] 28);go_enter func16,ntmps16;go_wp2_with fail;refine(F1 _).mono ?_;rintro e w1 ⟨rfl,b1⟩;replace hb:=keepB hb hb.size b1;replace hb:=hb.alloc hb.size (Obj.cells #[int u64 p,int u64 q,.bool pb] 47);clear b1 F1;go_wp2_with fail;refine(Wd _).mono ?_;rintro e w3 ⟨rfl,b3⟩;replace hb:=keepB hb hb.size b3;clear b3 Wd;go_wp2_with fail;refine(Pw _).mono ?_;rintro e w4 ⟨rfl,b4⟩;replace hb:=keepB hb hb.size b4;go_wp2;go_ret;exact⟨rfl,hb⟩
theorem putI_pt (x y:Nat)(c:Bool)(w:World):
    Cr 16 #[.agg #[int u64 x,int u64 y,.bool c]] w (.string (strOfNums (be8 (putN (asPt x y c):Nat)))):=by
  have Wd:=wrdV (asPt x y c);rw [ptW_eq] at Wd;exact putP_of _ _ _ _ _ _ _ _ _ w (fndW x y c) Wd (fun w=>putI_any _ w (putN_lt _))
end
theorem shaI_any (s:ByteArray)(w:World)(hT:TabK w)(hs:s.size≤1000000000000):
    Cr 76 #[.string s] w (.string (strOfNums (shaF (byt s)))):=by
  have hgw:2<w.heap.size:=World.block_lt_of_cell? w _ (hT 0 (by omega));go_enter func76,ntmps76;go_wp2_with fail;generalize hW1:w.alloc _=W1
  have hc:∀i,i<1→W1.cell? ⟨w.heap.size,i,none⟩=some (.string ([s].getD i ByteArray.empty)):=fun i hi=>by
    obtain rfl:i=0:=by omega
    rw [←hW1,cell_of_row _ _ _ _ _ _ (heap_alloc_new w _)];rfl
  have hb1:Bl w W1:=by rw [←hW1];exact(Below.refl _ _).alloc (Nat.le_refl _) _
  have hT1:TabK W1:=fun i hi=>(hb1.cell (p:=⟨2,i,none⟩) hgw).trans (hT i hi)
  clear hW1;refine(hashOfI_any w.heap.size 1 1 [s] W1 hT1 (by simpa [sizeB] using hs) rfl (by omega) (by omega) hc).mono ?_;rintro e W2 ⟨rfl,hb2⟩;go_wp2;go_ret;exact⟨by simp [catB],hb1.tr hb2⟩
end Go.Proofs.YtijmldjijnpnoaaDoor
