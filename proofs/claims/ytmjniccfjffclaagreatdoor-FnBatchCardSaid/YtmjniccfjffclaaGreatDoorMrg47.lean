import Derived.Test.YtmjniccfjffclaaGreatDoorMrg46
set_option linter.unusedVariables false
set_option maxRecDepth 100000
set_option maxHeartbeats 16000000
namespace Go.Proofs.YtmjniccfjffclaaGreatDoor
open Go.Proofs.Tryz Go.RowKit
open Go.Value (int)
open Go.IntKind (u64)
section
open M
def zBat:Array Value:=#[.string ⟨#[]⟩,int u64 0,int u64 0,.bool false,.slice none 0 0,.slice none 0 0]
theorem sizeBat:(prog.info? 78).map (·.size)=some 6:=by kernel_rfl
section
variable (cx info:ByteArray)(q:Pt)(v2 v3:Value)(a0 a1 a2 a3:Addr)(w:World)
theorem nclI (n2 n3 k2' k3:Nat)(b2 b3:Option Addr):
    Cr 139 #[.agg #[.string cx,.string info],.agg #[int u64 (px q),int u64 (py q),.bool (pb q)],.slice b2 n2 k2',.slice b3 n3 k3] w (.tuple #[.agg zBat,.bool false]):=by
  obtain⟨X,hX⟩:∃X,X=((w.alloc (Obj.cells #[.string cx,.string info] 119)).alloc (Obj.cells #[int u64 (px q),int u64 (py q),.bool (pb q)] 75)).alloc (Obj.cells zBat 78):=⟨_,rfl⟩;have r0:Bk X 119 w.heap.size #[.string cx,.string info]:=by rw [hX];exact((Bk.new _ _ _).alloc _).alloc _
  have r1:K3 X 75 (w.heap.size+1) (px q) (py q) (pb q):=by rw [hX];exact((K3.new _ _ _ _ _).at (by simp)).alloc _
  have hr:Bk X 78 (w.heap.size+1+1) zBat:=by rw [hX];exact(Bk.new _ _ _).at (by simp)
  have hb:Bl w X:=by rw [hX];exact(((Below.refl _ w).alloc (Nat.le_refl _) _).alloc (by simp) _).alloc (by simp;omega) _
  rw [hX] at r0 r1 hr hb;clear hX;have s0:=r0.cell (k:=0) rfl;have k0:=r1.c0;have k1:=r1.c1;have k2:=r1.c2;have hth:=hr.there 6 (by decide);go_enter func139,ntmps139;go_wp2_with (refine wpList_store_mid rfl 78 _ _ rfl (w.heap.size+1+1) 0 zBat rfl rfl hth sizeBat (by kernel_rfl) ?_);exact bodyPost_ret (v:= .tuple #[.agg zBat,.bool false]) (bk_res2 (fn:=Tryz.f139) (p:=8) (u:=9) results139 _ rfl (hr.sets _ rfl) underlying78 rfl sizeBat) rfl ⟨rfl,below_setCells hb (by omega) _ _⟩
theorem cfwI (n2 n3 k2' k3:Nat)(b2 b3:Option Addr):
    Cr 141 #[.agg #[.string cx,.string info],.agg #[int u64 (px q),int u64 (py q),.bool (pb q)],.slice b2 n2 k2',.slice b3 n3 k3] w (.tuple #[.agg #[.string cx,int u64 (px q),int u64 (py q),.bool (pb q),.slice b2 n2 k2',.slice b3 n3 k3],.bool true]):=by
  obtain⟨X,hX⟩:∃X,X=((w.alloc (Obj.cells #[.string cx,.string info] 119)).alloc (Obj.cells #[int u64 (px q),int u64 (py q),.bool (pb q)] 75)).alloc (Obj.cells zBat 78):=⟨_,rfl⟩;have r0:Bk X 119 w.heap.size #[.string cx,.string info]:=by rw [hX];exact((Bk.new _ _ _).alloc _).alloc _
  have r1:K3 X 75 (w.heap.size+1) (px q) (py q) (pb q):=by rw [hX];exact((K3.new _ _ _ _ _).at (by simp)).alloc _
  have hr:Bk X 78 (w.heap.size+1+1) zBat:=by rw [hX];exact(Bk.new _ _ _).at (by simp)
  have hb:Bl w X:=by rw [hX];exact(((Below.refl _ w).alloc (Nat.le_refl _) _).alloc (by simp) _).alloc (by simp;omega) _
  rw [hX] at r0 r1 hr hb;clear hX;have s0:=r0.cell (k:=0) rfl;have k0:=r1.c0;have k1:=r1.c1;have k2:=r1.c2;have hth:=hr.there 6 (by decide);go_enter func141,ntmps141;go_wp2_with (refine wpList_store_mid rfl 78 _ _ rfl (w.heap.size+1+1) 0 #[.string cx,int u64 (px q),int u64 (py q),.bool (pb q),.slice b2 n2 k2',.slice b3 n3 k3] rfl rfl hth sizeBat (by kernel_rfl) ?_);exact bodyPost_ret (v:= .tuple #[.agg #[.string cx,int u64 (px q),int u64 (py q),.bool (pb q),.slice b2 n2 k2',.slice b3 n3 k3],.bool true]) (bk_res2 (fn:=Tryz.f141) (p:=8) (u:=9) results141 _ rfl (hr.sets _ rfl) underlying78 rfl sizeBat) rfl ⟨rfl,below_setCells hb (by omega) _ _⟩
theorem cbwI (n2 n3 k2' k3:Nat)(b2 b3:Option Addr):
    Cr 147 #[.agg #[.string cx,.string info],.agg #[int u64 (px q),int u64 (py q),.bool (pb q)],.slice b2 n2 k2',.slice b3 n3 k3] w (.tuple #[.agg #[.string cx,int u64 (px q),int u64 (py q),.bool (pb q),.slice b3 n3 k3,.slice b2 n2 k2'],.bool true]):=by
  obtain⟨X,hX⟩:∃X,X=((w.alloc (Obj.cells #[.string cx,.string info] 119)).alloc (Obj.cells #[int u64 (px q),int u64 (py q),.bool (pb q)] 75)).alloc (Obj.cells zBat 78):=⟨_,rfl⟩;have r0:Bk X 119 w.heap.size #[.string cx,.string info]:=by rw [hX];exact((Bk.new _ _ _).alloc _).alloc _
  have r1:K3 X 75 (w.heap.size+1) (px q) (py q) (pb q):=by rw [hX];exact((K3.new _ _ _ _ _).at (by simp)).alloc _
  have hr:Bk X 78 (w.heap.size+1+1) zBat:=by rw [hX];exact(Bk.new _ _ _).at (by simp)
  have hb:Bl w X:=by rw [hX];exact(((Below.refl _ w).alloc (Nat.le_refl _) _).alloc (by simp) _).alloc (by simp;omega) _
  rw [hX] at r0 r1 hr hb;clear hX;have s0:=r0.cell (k:=0) rfl;have k0:=r1.c0;have k1:=r1.c1;have k2:=r1.c2;have hth:=hr.there 6 (by decide);go_enter func147,ntmps147;go_wp2_with (refine wpList_store_mid rfl 78 _ _ rfl (w.heap.size+1+1) 0 #[.string cx,int u64 (px q),int u64 (py q),.bool (pb q),.slice b3 n3 k3,.slice b2 n2 k2'] rfl rfl hth sizeBat (by kernel_rfl) ?_);exact bodyPost_ret (v:= .tuple #[.agg #[.string cx,int u64 (px q),int u64 (py q),.bool (pb q),.slice b3 n3 k3,.slice b2 n2 k2'],.bool true]) (bk_res2 (fn:=Tryz.f147) (p:=8) (u:=9) results147 _ rfl (hr.sets _ rfl) underlying78 rfl sizeBat) rfl ⟨rfl,below_setCells hb (by omega) _ _⟩
end
def B6 (W:World)(b:Nat)(s:ByteArray)(x y:Int)(c:Bool)(a1:Option Addr)(n1 k1:Nat)(a2:Option Addr)(n2 k2:Nat):Prop:=W.heap[b]? =some (.cells #[.string s,int u64 x,int u64 y,.bool c,.slice a1 n1 k1,.slice a2 n2 k2] 78)
section
variable {W W':World}{b:Nat}{s:ByteArray}{x y:Int}{c:Bool}{a1 a2:Option Addr}{n1 k1 n2 k2:Nat}
theorem B6.c0 (h:B6 W b s x y c a1 n1 k1 a2 n2 k2):W.cell? ⟨b,0,none⟩=some (.string s):=by unfold B6 at h;simp [World.cell?,h]
theorem B6.c1 (h:B6 W b s x y c a1 n1 k1 a2 n2 k2):W.cell? ⟨b,1,none⟩=some (int u64 x):=by unfold B6 at h;simp [World.cell?,h]
theorem B6.c2 (h:B6 W b s x y c a1 n1 k1 a2 n2 k2):W.cell? ⟨b,2,none⟩=some (int u64 y):=by unfold B6 at h;simp [World.cell?,h]
theorem B6.c3 (h:B6 W b s x y c a1 n1 k1 a2 n2 k2):W.cell? ⟨b,3,none⟩=some (.bool c):=by unfold B6 at h;simp [World.cell?,h]
theorem B6.c4 (h:B6 W b s x y c a1 n1 k1 a2 n2 k2):W.cell? ⟨b,4,none⟩=some (.slice a1 n1 k1):=by unfold B6 at h;simp [World.cell?,h]
theorem B6.c5 (h:B6 W b s x y c a1 n1 k1 a2 n2 k2):W.cell? ⟨b,5,none⟩=some (.slice a2 n2 k2):=by unfold B6 at h;simp [World.cell?,h]
theorem B6.frz (h:B6 W b s x y c a1 n1 k1 a2 n2 k2)(i:Nat):W.frozen? ⟨b,i,none⟩=false:=by unfold B6 at h;simp [World.frozen?,h]
theorem B6.lt (h:B6 W b s x y c a1 n1 k1 a2 n2 k2):b<W.heap.size:=(Array.getElem?_eq_some_iff.1 h).1
theorem B6.keep (h:B6 W b s x y c a1 n1 k1 a2 n2 k2)(hb:Bl W W'):B6 W' b s x y c a1 n1 k1 a2 n2 k2:=(hb.block b h.lt).trans h
theorem B6.new (w:World)(s:ByteArray)(x y:Int)(c:Bool)(a1:Option Addr)(n1 k1:Nat)(a2:Option Addr)(n2 k2:Nat):B6 (w.alloc (.cells #[.string s,int u64 x,int u64 y,.bool c,.slice a1 n1 k1,.slice a2 n2 k2] 78)) w.heap.size s x y c a1 n1 k1 a2 n2 k2:=heap_alloc_new w _
theorem B6.alloc (h:B6 W b s x y c a1 n1 k1 a2 n2 k2)(o:Obj):B6 (W.alloc o) b s x y c a1 n1 k1 a2 n2 k2:=(Below.heap_alloc W o b h.lt).trans h
theorem B6.at {b':Nat}(h:B6 W b s x y c a1 n1 k1 a2 n2 k2)(e:b=b'):B6 W b' s x y c a1 n1 k1 a2 n2 k2:=e▸h
theorem B6.range (h:B6 W b s x y c a1 n1 k1 a2 n2 k2):W.rangeAt b 0 [.string s,int u64 x,int u64 y,.bool c,.slice a1 n1 k1,.slice a2 n2 k2]:=fun j v hj=>by
  match j,hj with
  |0,hj=>cases hj;exact h.c0
  |1,hj=>cases hj;exact h.c1
  |2,hj=>cases hj;exact h.c2
  |3,hj=>cases hj;exact h.c3
  |4,hj=>cases hj;exact h.c4
  |5,hj=>cases hj;exact h.c5
def set6 (W:World)(b:Nat)(v0 v1 v2 v3 v4 v5:Value):World:=(((((W.setCell ⟨b,0,none⟩ v0).setCell ⟨b,1,none⟩ v1).setCell ⟨b,2,none⟩ v2).setCell ⟨b,3,none⟩ v3).setCell ⟨b,4,none⟩ v4).setCell ⟨b,5,none⟩ v5
theorem B6.set (h:B6 W b s x y c a1 n1 k1 a2 n2 k2)(s':ByteArray)(x' y':Int)(c':Bool)(a1':Option Addr)(n1' k1':Nat)(a2':Option Addr)(n2' k2':Nat):
    B6 (set6 W b (.string s') (int u64 x') (int u64 y') (.bool c') (.slice a1' n1' k1') (.slice a2' n2' k2')) b s' x' y' c' a1' n1' k1' a2' n2' k2':=by
  unfold B6 set6 at*;simp [World.setCell,Array.getElem?_modify,h]
theorem set6_below {N:Nat}{w:World}(h:Below N w W)(hb:N≤b)(v0 v1 v2 v3 v4 v5:Value):Below N w (set6 W b v0 v1 v2 v3 v4 v5):=
  (((((h.setCell (p:=⟨b,0,none⟩) hb _).setCell (p:=⟨b,1,none⟩) hb _).setCell (p:=⟨b,2,none⟩) hb _).setCell (p:=⟨b,3,none⟩) hb _).setCell (p:=⟨b,4,none⟩) hb _).setCell (p:=⟨b,5,none⟩) hb _
theorem set6_other {k:Nat}(hk:k≠b)(v0 v1 v2 v3 v4 v5:Value):(set6 W b v0 v1 v2 v3 v4 v5).heap[k]? =W.heap[k]? :=by
  unfold set6;simp only [World.setCell];simp [Array.getElem?_modify,Ne.symm hk]
theorem bat_res {fn:Func}{p u:Tmp}(h:fn.results=#[.cell p 78,.tmp u])(tmps:Array Value)(hp:tmps.getD p undef= .pointer (some ⟨b,0,none⟩))(hc:B6 W b s x y c a1 n1 k1 a2 n2 k2):
    (results fn tmps).run prog W= .ok (.tuple #[.agg #[.string s,int u64 x,int u64 y,.bool c,.slice a1 n1 k1,.slice a2 n2 k2],tmps.getD u undef]) W:=by
  have hp':tmps[p]?.getD undef= .pointer (some ⟨b,0,none⟩):=by simpa using hp
  simp [results,h,hp',asAddr,run_loadVar_mid W b 0 78 [.string s,int u64 x,int u64 y,.bool c,.slice a1 n1 k1,.slice a2 n2 k2] _ hc.range underlying78 rfl (by kernel_rfl)]
end
section
variable (mode bx by':Int)(bc:Bool)(gc oc nc cc gd od nd cd:Nat)(w:World)
theorem fbI_early (s:ByteArray)(kn:Bool)(h:kn=false∨nc≠nd∨nc<1∨200<nc)
    (C:∀w,Calls prog 75 #[.int .i64 mode] w fun e w'=>e= .returned (.tuple #[.string s,.bool kn])∧w=w'):
    Cr 37 #[.int .i64 mode,.agg #[int u64 bx,int u64 by',.bool bc],.slice (some ⟨gc,oc,none⟩) nc cc,.slice (some ⟨gd,od,none⟩) nd cd] w (.tuple #[.agg #[.string ⟨#[]⟩,int u64 0,int u64 0,.bool false,.slice none 0 0,.slice none 0 0],.bool false]):=by
  have r8:B6 ((w.alloc (Obj.cells #[int u64 bx,int u64 by',.bool bc] 34)).alloc (Obj.cells #[.string ⟨#[]⟩,int u64 0,int u64 0,.bool false,.slice none 0 0,.slice none 0 0] 78)) (w.heap.size+1) ⟨#[]⟩ 0 0 false none 0 0 none 0 0:=(B6.new _ _ _ _ _ _ _ _ _ _ _).at (by simp);have hb:Bl w ((w.alloc (Obj.cells #[int u64 bx,int u64 by',.bool bc] 34)).alloc (Obj.cells #[.string ⟨#[]⟩,int u64 0,int u64 0,.bool false,.slice none 0 0,.slice none 0 0] 78)):=((Below.refl _ w).alloc (Nat.le_refl _) _).alloc (by simp) _;have d0:=r8.c0;have d1:=r8.c1;have d2:=r8.c2;have d3:=r8.c3;have d4:=r8.c4;have d5:=r8.c5;have df:=r8.frz;go_enter func37,ntmps37;go_wp2_with fail;refine(C _).mono ?_;rintro e w1 ⟨rfl,rfl⟩;clear C
  cases kn with
  | false=>
    clear h;go_wp2;exact bodyPost_ret (v:= .tuple #[.agg #[.string ⟨#[]⟩,int u64 0,int u64 0,.bool false,.slice none 0 0,.slice none 0 0],.bool false]) (bat_res (fn:=Tryz.f37) (p:=8) (u:=9) results37 _ rfl r8) rfl ⟨rfl,hb⟩
  | true=>
    by_cases h1:nc=nd
    · subst h1;by_cases h2:nc<1
      · have g2:(nc:Int)<1:=by omega
        clear h;go_wp2;exact bodyPost_ret (v:= .tuple #[.agg #[.string ⟨#[]⟩,int u64 0,int u64 0,.bool false,.slice none 0 0,.slice none 0 0],.bool false]) (bat_res (fn:=Tryz.f37) (p:=8) (u:=9) results37 _ rfl r8) rfl ⟨rfl,hb⟩
      · have g2: ¬ (nc:Int)<1:=by omega
        have g3:(200:Int)<(nc:Int):=by
          rcases h with h|h|h|h
          · simp at h
          · exact absurd rfl h
          · exact absurd h h2
          · omega
        clear h;go_wp2;exact bodyPost_ret (v:= .tuple #[.agg #[.string ⟨#[]⟩,int u64 0,int u64 0,.bool false,.slice none 0 0,.slice none 0 0],.bool false]) (bat_res (fn:=Tryz.f37) (p:=8) (u:=9) results37 _ rfl r8) rfl ⟨rfl,hb⟩
    · have g1:((nc:Int) !=(nd:Int))=true:=by
        simp only [bne_iff_ne,ne_eq];omega
      clear h;go_wp2;exact bodyPost_ret (v:= .tuple #[.agg #[.string ⟨#[]⟩,int u64 0,int u64 0,.bool false,.slice none 0 0,.slice none 0 0],.bool false]) (bat_res (fn:=Tryz.f37) (p:=8) (u:=9) results37 _ rfl r8) rfl ⟨rfl,hb⟩
theorem fbI_late (s:ByteArray)(fx fy:Int)(fc ob o1 o2:Bool)(cs ds:List Pt)(h1:1≤nc)(h2:nc≤200)
    (C:∀w,Calls prog 75 #[.int .i64 mode] w fun e w'=>e= .returned (.tuple #[.string s,.bool true])∧w=w')
    (F:Cc 38 #[.agg #[int u64 bx,int u64 by',.bool bc]] (.tuple #[.agg #[int u64 fx,int u64 fy,.bool fc],.bool ob]))
    (F1:∀w',Bl w w'→Calls prog 76 #[.slice (some ⟨gc,oc,none⟩) nc cc] w' fun e w''=>(∃v,e= .returned (.tuple #[v,.bool o1])∧(o1=true→w''.ownsRow w'.heap.size 75 3 v nc (cells3 cs))∧(o1=false→v= .slice none 0 0))∧Bl w' w'')
    (F2:∀w',Bl w w'→Calls prog 76 #[.slice (some ⟨gd,od,none⟩) nc cd] w' fun e w''=>(∃v,e= .returned (.tuple #[v,.bool o2])∧(o2=true→w''.ownsRow w'.heap.size 75 3 v nc (cells3 ds))∧(o2=false→v= .slice none 0 0))∧Bl w' w''):
    Calls prog 37 #[.int .i64 mode,.agg #[int u64 bx,int u64 by',.bool bc],.slice (some ⟨gc,oc,none⟩) nc cc,.slice (some ⟨gd,od,none⟩) nc cd] w fun e w'=>(∃a1 n1 k1 a2 n2 k2,e= .returned (.tuple #[.agg #[.string s,int u64 fx,int u64 fy,.bool fc,.slice a1 n1 k1,.slice a2 n2 k2],.bool (ob&&o1&&o2)])∧
      (o1=true→o2=true→∃g1 g2,a1=some ⟨g1,0,none⟩∧n1=nc∧Cps w' g1 cs∧a2=some ⟨g2,0,none⟩∧n2=nc∧Cps w' g2 ds))∧Bl w w':=by
  have r8:B6 ((w.alloc (Obj.cells #[int u64 bx,int u64 by',.bool bc] 34)).alloc (Obj.cells #[.string ⟨#[]⟩,int u64 0,int u64 0,.bool false,.slice none 0 0,.slice none 0 0] 78)) (w.heap.size+1) ⟨#[]⟩ 0 0 false none 0 0 none 0 0:=(B6.new _ _ _ _ _ _ _ _ _ _ _).at (by simp);have hb:Bl w ((w.alloc (Obj.cells #[int u64 bx,int u64 by',.bool bc] 34)).alloc (Obj.cells #[.string ⟨#[]⟩,int u64 0,int u64 0,.bool false,.slice none 0 0,.slice none 0 0] 78)):=((Below.refl _ w).alloc (Nat.le_refl _) _).alloc (by simp) _;have g2: ¬ (nc:Int)<1:=by omega
  have g3: ¬ (200:Int)<(nc:Int):=by omega
  go_enter func37,ntmps37;go_wp2_with fail;refine(C _).mono ?_;rintro e w1 ⟨rfl,rfl⟩;clear C;go_wp2_with fail;refine(F _).mono ?_;rintro e w2 ⟨rfl,b2⟩;have k12:=K3.new w2 75 fx fy fc;replace r8:=(r8.keep b2).alloc (Obj.cells #[int u64 fx,int u64 fy,.bool fc] 75);replace hb:=hb.tr b2;replace hb:=hb.alloc hb.size (Obj.cells #[int u64 fx,int u64 fy,.bool fc] 75);clear F b2;go_wp2_with fail;refine(F1 _ hb).mono ?_;rintro e w3 ⟨⟨v1,rfl,hy1,hn1⟩,b3⟩;replace k12:=k12.keep b3;replace r8:=r8.keep b3;replace hb:=hb.tr b3
  obtain⟨a1,m1,q1,rfl,hc1⟩:∃a1 m1 q1,v1= .slice a1 m1 q1∧(o1=true→∃g1,a1=some ⟨g1,0,none⟩∧m1=nc∧Cps w3 g1 cs):=by
    cases o1 with
    |false=>exact ⟨none,0,0,hn1 rfl,fun h=>by cases h⟩
    | true=>
      have ho:=hy1 rfl;rcases ho.2 with ⟨_,h0⟩|⟨g,cap,cur,hv,-⟩
      · omega
      · subst hv;exact⟨_,_,_,rfl,fun _=>⟨g,rfl,rfl,Cps.of_owns ho⟩⟩
  clear F1 b3 hy1 hn1;go_wp2_with fail;refine(F2 _ hb).mono ?_;rintro e w4 ⟨⟨v2,rfl,hy2,hn2⟩,b4⟩;replace k12:=k12.keep b4;replace r8:=r8.keep b4;replace hb:=hb.tr b4
  have hc1':Hid (o1=true→∃g1,a1=some ⟨g1,0,none⟩∧m1=nc∧Cps w4 g1 cs):=fun h=>by
    obtain⟨g1,e1,e2,e3⟩:=hc1 h;exact⟨g1,e1,e2,e3.keep b4⟩
  clear hc1
  obtain⟨a2,m2,q2,rfl,hc2⟩:∃a2 m2 q2,v2= .slice a2 m2 q2∧Hid (o2=true→∃g2,a2=some ⟨g2,0,none⟩∧m2=nc∧Cps w4 g2 ds):=by
    cases o2 with
    |false=>exact ⟨none,0,0,hn2 rfl,fun h=>by cases h⟩
    | true=>
      have ho:=hy2 rfl;rcases ho.2 with ⟨_,h0⟩|⟨g,cap,cur,hv,-⟩
      · omega
      · subst hv;exact⟨_,_,_,rfl,fun _=>⟨g,rfl,rfl,Cps.of_owns ho⟩⟩
  clear F2 b4 hy2 hn2;have d0:=r8.c0;have d1:=r8.c1;have d2:=r8.c2;have d3:=r8.c3;have d4:=r8.c4;have d5:=r8.c5;have df:=r8.frz;have e0:=k12.c0;have e1:=k12.c1;have e2:=k12.c2
  have hpost:∀W5,W5=set6 w4 (w.heap.size+1) (.string s) (int u64 fx) (int u64 fy) (.bool fc) (.slice a1 m1 q1) (.slice a2 m2 q2)→(o1=true→o2=true→∃g1 g2,a1=some ⟨g1,0,none⟩∧m1=nc∧Cps W5 g1 cs∧a2=some ⟨g2,0,none⟩∧m2=nc∧Cps W5 g2 ds):=by
    rintro W5 rfl h1 h2;obtain⟨g1,p1,p2,p3⟩:=hc1'.out h1;obtain⟨g2,p4,p5,p6⟩:=hc2.out h2
    have mv:∀g L,Cps w4 g L→0<L.length→Cps (set6 w4 (w.heap.size+1) (.string s) (int u64 fx) (int u64 fy) (.bool fc) (.slice a1 m1 q1) (.slice a2 m2 q2)) g L:=by
      intro g L hL hpos
      have hne:g≠w.heap.size+1:=by
        rintro rfl;obtain⟨p,hp⟩:∃p,L[0]? =some p:=⟨_,List.getElem?_eq_getElem hpos⟩;have:=hL.c0 0 p hp;rw [show (0+0*3:Nat)=0 from rfl,d0] at this;cases this
      have ec:∀i,(set6 w4 (w.heap.size+1) (.string s) (int u64 fx) (int u64 fy) (.bool fc) (.slice a1 m1 q1) (.slice a2 m2 q2)).cell? ⟨g,i,none⟩=w4.cell? ⟨g,i,none⟩:=fun i=>World.cell?_of_block (w:=w4) (a:=⟨g,i,none⟩) (set6_other hne _ _ _ _ _ _)
      refine⟨?_,fun i p hp=>(ec _).trans (hL.c0 i p hp),fun i p hp=>(ec _).trans (hL.c1 i p hp),fun i p hp=>(ec _).trans (hL.c2 i p hp)⟩;have:=(set6_below (Below.refl w4.heap.size w4) (b:=w4.heap.size) (Nat.le_refl _) (.bool true) (.bool true) (.bool true) (.bool true) (.bool true) (.bool true)).size;have h3:(set6 w4 (w.heap.size+1) (.string s) (int u64 fx) (int u64 fy) (.bool fc) (.slice a1 m1 q1) (.slice a2 m2 q2)).heap.size=w4.heap.size:=by simp [set6,World.setCell]
      rw [h3];exact hL.lt
    have hk:∀L:List Pt,(∀g,Cps w4 g L→0<L.length∨L= []):=fun L g _=>by cases L<;>simp
    have mv':∀g L,Cps w4 g L→Cps (set6 w4 (w.heap.size+1) (.string s) (int u64 fx) (int u64 fy) (.bool fc) (.slice a1 m1 q1) (.slice a2 m2 q2)) g L:=by
      intro g L hL
      cases L with
      | nil=>
        refine⟨?_,fun i p hp=>by simp at hp,fun i p hp=>by simp at hp,fun i p hp=>by simp at hp⟩;have h3:(set6 w4 (w.heap.size+1) (.string s) (int u64 fx) (int u64 fy) (.bool fc) (.slice a1 m1 q1) (.slice a2 m2 q2)).heap.size=w4.heap.size:=by simp [set6,World.setCell]
        rw [h3];exact hL.lt
      |cons p r=>exact mv g _ hL (by simp)
    exact⟨g1,g2,p1,p2,mv' g1 _ p3,p4,p5,mv' g2 _ p6⟩
  clear hc1' hc2
  cases ob with
  | false=>
    go_wp2;refine bodyPost_ret (v:= .tuple #[.agg #[.string s,int u64 fx,int u64 fy,.bool fc,.slice a1 m1 q1,.slice a2 m2 q2],.bool false]) (bat_res (fn:=Tryz.f37) (p:=8) (u:=9) results37 _ rfl (r8.set _ _ _ _ _ _ _ _ _ _)) rfl ⟨⟨a1,m1,q1,a2,m2,q2,rfl,hpost _ rfl⟩,set6_below hb (by omega) _ _ _ _ _ _⟩
  | true=>
    cases o1 with
    | false=>
      go_wp2;refine bodyPost_ret (v:= .tuple #[.agg #[.string s,int u64 fx,int u64 fy,.bool fc,.slice a1 m1 q1,.slice a2 m2 q2],.bool false]) (bat_res (fn:=Tryz.f37) (p:=8) (u:=9) results37 _ rfl (r8.set _ _ _ _ _ _ _ _ _ _)) rfl ⟨⟨a1,m1,q1,a2,m2,q2,rfl,fun h=>by cases h⟩,set6_below hb (by omega) _ _ _ _ _ _⟩
    | true=>
      go_wp2
      refine bodyPost_ret (v:= .tuple #[.agg #[.string s,int u64 fx,int u64 fy,.bool fc,.slice a1 m1 q1,.slice a2 m2 q2],.bool o2]) (bat_res (fn:=Tryz.f37) (p:=8) (u:=9) results37 _ rfl (r8.set _ _ _ _ _ _ _ _ _ _)) rfl (by
        have hp:=hpost _ rfl;refine⟨?_,set6_below hb (by omega) _ _ _ _ _ _⟩
        exact⟨a1,m1,q1,a2,m2,⟨q2,rfl⟩,fun h=>by
          obtain⟨g1,g2,x1,x2,x3,x4,x5,x6⟩:=hp (by trivial) h
          exact⟨g1,x1,x2,x3,g2,x4,x5,x6⟩⟩)
end
theorem fbI_yes (mode:Int)(b:Tri)(cs ds:List Tri)(gc oc cc gd od cd:Nat)(w:World)(hc:Pts w gc oc cs)(hd:Pts w gd od ds)(h:batB mode b b cs ds=true):
    Calls prog 37 #[.int .i64 mode,triW b,.slice (some ⟨gc,oc,none⟩) cs.length cc,.slice (some ⟨gd,od,none⟩) ds.length cd] w fun e w'=>∃g1 k1 g2 k2,e= .returned (.tuple #[.agg #[.string (ctxB mode.toNat),int u64 (px (asT b)),int u64 (py (asT b)),.bool (pb (asT b)),.slice (some ⟨g1,0,none⟩) cs.length k1,.slice (some ⟨g2,0,none⟩) cs.length k2],.bool true])∧
      Cps w' g1 (cs.map asT)∧Cps w' g2 (ds.map asT)∧Bl w w':=by
  have h':=h;rw [batB_iff] at h';obtain⟨h1,h2,-,h4,h5,h6,h7⟩:=h';obtain⟨k,rfl⟩:∃k:Nat,mode=(k:Int):=⟨mode.toNat,by omega⟩;have a6:cs.all onT=true:=List.all_eq_true.2 h6;have a7:ds.all onT=true:=List.all_eq_true.2 h7;rw [Int.toNat_natCast,←h5];have F1:=fun w' hb=>fpsI_any cs cs.length gc oc cc w' rfl h4.2 (hc.below (B:=w.heap.size) hb hc.lt)
  have F2:=fun w' hb=>fpsI_any ds cs.length gd od cd w' h5.symm h4.2 (hd.below (B:=w.heap.size) hb hd.lt)
  refine(fbI_late k _ _ _ gc oc cs.length cc gd od cd w (ctxB k) _ _ _ (onT b) (cs.all onT) (ds.all onT) (cs.map asT) (ds.map asT) h4.1 h4.2 (fun w=>ctxI_yes k w (by omega)) (fnd_tri b) F1 F2).mono ?_;rintro e w' ⟨⟨a1,n1,k1,a2,n2,k2,rfl,hx⟩,hb⟩;obtain⟨g1,g2,rfl,rfl,q1,rfl,rfl,q2⟩:=hx a6 a7;refine⟨g1,k1,g2,k2,?_,q1,q2,hb⟩;rw [h2,a6,a7];rfl
theorem fbI_no (mode:Int)(b:Tri)(cs ds:List Tri)(gc oc cc gd od cd:Nat)(w:World)(hc:Pts w gc oc cs)(hd:Pts w gd od ds)(h:batB mode b b cs ds=false):
    Calls prog 37 #[.int .i64 mode,triW b,.slice (some ⟨gc,oc,none⟩) cs.length cc,.slice (some ⟨gd,od,none⟩) ds.length cd] w fun e w'=>∃s x y c a1 n1 k1 a2 n2 k2,e= .returned (.tuple #[.agg #[.string s,int u64 x,int u64 y,.bool c,.slice a1 n1 k1,.slice a2 n2 k2],.bool false])∧Bl w w':=by
  by_cases hh:(0≤mode∧mode≤2)∧cs.length=ds.length∧1≤cs.length∧cs.length≤200
  · obtain⟨h1,h5,h3,h4⟩:=hh;obtain⟨k,rfl⟩:∃k:Nat,mode=(k:Int):=⟨mode.toNat,by omega⟩;have F1:=fun w' hb=>fpsI_any cs cs.length gc oc cc w' rfl h4 (hc.below (B:=w.heap.size) hb hc.lt)
    have F2:=fun w' hb=>fpsI_any ds cs.length gd od cd w' h5.symm h4 (hd.below (B:=w.heap.size) hb hd.lt)
    have e:(onT b&&cs.all onT&&ds.all onT)=false:=by
      cases hx:onT b&&cs.all onT&&ds.all onT with
      |false=>rfl
      | true=>
        simp only [Bool.and_eq_true] at hx;have:batB k b b cs ds=true:=(batB_iff _ _ _ _ _).2 ⟨h1,hx.1.1,hx.1.1,⟨h3,h4⟩,h5,List.all_eq_true.1 hx.1.2,List.all_eq_true.1 hx.2⟩;rw [h] at this;cases this
    rw [←h5];refine(fbI_late k _ _ _ gc oc cs.length cc gd od cd w (ctxB k) _ _ _ (onT b) (cs.all onT) (ds.all onT) (cs.map asT) (ds.map asT) h3 h4 (fun w=>ctxI_yes k w (by omega)) (fnd_tri b) F1 F2).mono ?_;rintro e' w' ⟨⟨a1,n1,k1,a2,n2,k2,rfl,-⟩,hb⟩;exact⟨_,_,_,_,_,_,_,_,_,_,by rw [e],hb⟩
  · by_cases hm:0≤mode∧mode≤2
    · obtain⟨k,rfl⟩:∃k:Nat,mode=(k:Int):=⟨mode.toNat,by omega⟩;refine(fbI_early k _ _ _ gc oc cs.length cc gd od ds.length cd w (ctxB k) true ?_ (fun w=>ctxI_yes k w (by omega))).mono ?_
      · right;by_cases h1:cs.length=ds.length
        · right;by_cases h2:cs.length<1
          · exact .inl h2
          · exact .inr (by have: ¬ cs.length≤200:=fun h'=>hh ⟨hm,h1,by omega,h'⟩;omega)
        · exact .inl h1
      · rintro e w' ⟨rfl,hb⟩;exact⟨_,_,_,_,_,_,_,_,_,_,rfl,hb⟩
    · refine(fbI_early mode _ _ _ gc oc cs.length cc gd od ds.length cd w ⟨#[]⟩ false (.inl rfl) (fun w=>ctxI_no mode w hm)).mono ?_;rintro e w' ⟨rfl,hb⟩;exact⟨_,_,_,_,_,_,_,_,_,_,rfl,hb⟩
theorem infoN5:(prog.info? 86).map (fun i=>(i.zero,i.size,i.bytes))=some (some (.agg #[int u64 0]),1,8):=by kernel_rfl
theorem wgtI_of (k n g1 k1 g2 k2:Nat)(b:Pt)(cs ds:List Pt)(w:World)(hT:TabK w)(hk:k<3)(h1:1≤n)(hn:n≤200)(hlc:cs.length=n)(hld:ds.length=n)(hc:Cps w g1 cs)(hd:Cps w g2 ds):
    Calls prog 115 #[.agg #[.string (ctxB k),int u64 (px b),int u64 (py b),.bool (pb b),.slice (some ⟨g1,0,none⟩) n k1,.slice (some ⟨g2,0,none⟩) n k2]] w fun e w'=>∃g cap,e= .returned (.slice (some ⟨g,0,none⟩) n cap)∧w'.ownsRow w.heap.size 86 1 (.slice (some ⟨g,0,none⟩) n cap) n ((wgts k b cs ds n).map (Value.int .u64))∧Bl w w':=by
  obtain⟨i0,hi,hz0,hz1,hz2⟩:=info_parts infoN5;obtain⟨WS,hWS⟩:∃WS,Hid (WS=wgts k b cs ds):=⟨_,rfl⟩;rw [←hWS.out];have hgw:7<w.heap.size:=World.block_lt_of_cell? w _ (hT 0 (by omega));have hzc:=ctxB_size k hk;have hzt:=seedT_size k hk
  have hst:Hid (∀i,i<n→∃c d,cs[i]? =some c∧ds[i]? =some d∧WS (i+1)=WS i++ [((scaN (sizB (seedB k b)++numB i++sizB (ptB c)++sizB (ptB d)++compB) k:Nat):Int)]):=fun i hi=>by
    obtain⟨c,hc⟩:∃c,cs[i]? =some c:=⟨_,List.getElem?_eq_getElem (by omega)⟩;obtain⟨d,hd⟩:∃d,ds[i]? =some d:=⟨_,List.getElem?_eq_getElem (by omega)⟩;refine⟨c,d,hc,hd,?_⟩;rw [hWS.out,wgts_succ];have e1:cs.getD i none=c:=by rw [List.getD_eq_getElem?_getD,hc];rfl
    have e2:ds.getD i none=d:=by rw [List.getD_eq_getElem?_getD,hd];rfl
    rw [e1,e2];rfl
  have hW0:WS 0= []:=by rw [hWS.out];rfl
  clear hWS;have hTG:=fun w=>tagI_any (ctxB k) ⟨#[83,101,101,100,45]⟩ w (by omega) (by decide)
  have hSQ:(⟨#[83,101,101,100,45]⟩:ByteArray)++ctxB k=seedT k:=(tagB_ctx _ k).symm;rw [hSQ] at hTG;clear hSQ;have hss:(seedB k b).size=32:=by unfold seedB;rw [strOfNums_size,shaF_length]
  have hWB:=writC b;have hWS2:=writZ (seedT k) (by omega);have hzb:(sizB (ptB b)).size=10:=by rw [sizB_size,ptB_size]
  have hzz:(sizB (seedT k)).size=19:=by rw [sizB_size,hzt]
  have hWI:∀(f j:Nat) (w:World),w.heap[j]? =some (.cells #[.iface 75 (.agg #[int u64 (px b),int u64 (py b),.bool (pb b)]),.iface 211 (.string (seedT k))] 231)→
      Cr 119 #[.string ⟨#[]⟩,.slice (some ⟨j,0,none⟩) 2 2] w (.string (seedM k b)):=fun f j w hr=>by
    have:=with_blk ⟨#[]⟩ [(.iface 75 (.agg #[int u64 (px b),int u64 (py b),.bool (pb b)]),sizB (ptB b)),(.iface 211 (.string (seedT k)),sizB (seedT k))] j 2 _ _ w hr rfl rfl (by omega) (by
      intro vs hvs;simp only [List.mem_cons,List.not_mem_nil,or_false] at hvs;rcases hvs with rfl|rfl
      · exact hWB
      · exact hWS2) (by simp only [catA,List.map_cons,List.map_nil,List.foldl_cons,List.foldl_nil,ByteArray.size_append,hzb,hzz];decide)
    rw [show catA ⟨#[]⟩ (List.map (·.2) [((.iface 75 (.agg #[int u64 (px b),int u64 (py b),.bool (pb b)]):Value),sizB (ptB b)),(.iface 211 (.string (seedT k)),sizB (seedT k))])=seedM k b by
      show(⟨#[]⟩:ByteArray)++sizB (ptB b)++sizB (seedT k)=_
      rw [eml];rfl] at this
    exact this
  have hSM:(seedM k b).size≤1000000:=by unfold seedM;rw [ByteArray.size_append,hzb,hzz];decide
  have hHS:∀(j:Nat) (w:World),TabK w→w.heap[j]? =some (.cells #[.string (seedM k b)] 9)→Cr 130 #[.slice (some ⟨j,0,none⟩) 1 1] w (.string (seedB k b)):=fun j w hT hr=>hash_blk (seedM k b) j _ w hT hr hSM
  have hW1:∀(w:World) (j:Nat),w.heap[j]? =some (.cells #[.iface 211 (.string (seedB k b))] 231)→Cr 119 #[.string ⟨#[]⟩,.slice (some ⟨j,0,none⟩) 1 1] w (.string (sizB (seedB k b))):=fun w j hr=>by
    have:=with_blk ⟨#[]⟩ [(.iface 211 (.string (seedB k b)),sizB (seedB k b))] j 1 _ _ w hr rfl rfl (by omega) (by
      intro vs hvs;simp only [List.mem_cons,List.not_mem_nil,or_false] at hvs;subst hvs
      exact writZ (seedB k b) (by omega)) (by simp only [catA,List.map_cons,List.map_nil,List.foldl_cons,List.foldl_nil,ByteArray.size_append,sizB_size,hss];decide)
    rw [show catA ⟨#[]⟩ (List.map (·.2) [((.iface 211 (.string (seedB k b)):Value),sizB (seedB k b))])=sizB (seedB k b) from eml _] at this;exact this
  clear hWB hWS2 hzz hSM;generalize seedM k b=SM at*;generalize seedT k=ST at*;have r1:=B6.new w (ctxB k) (px b) (py b) (pb b) (some ⟨g1,0,none⟩) n k1 (some ⟨g2,0,none⟩) n k2;have hb:=balc w (Obj.cells #[.string (ctxB k),int u64 (px b),int u64 (py b),.bool (pb b),.slice (some ⟨g1,0,none⟩) n k1,.slice (some ⟨g2,0,none⟩) n k2] 78);go_enter func115,ntmps115;go_wp2;generalize w.alloc (Obj.cells #[.string (ctxB k),int u64 (px b),int u64 (py b),.bool (pb b),.slice (some ⟨g1,0,none⟩) n k1,.slice (some ⟨g2,0,none⟩) n k2] 78)=W1 at*;have hT1:TabK W1.drew:=fun i hi=>(hb.cell (p:=⟨7,i,none⟩) hgw).trans (hT i hi)
  have hg1:7<W1.drew.heap.size:=Nat.lt_of_lt_of_le hgw hb.size;have c0:W1.drew.cell? ⟨w.heap.size,0,none⟩=_:=r1.c0;have c1:W1.drew.cell? ⟨w.heap.size,1,none⟩=_:=r1.c1;have c2:W1.drew.cell? ⟨w.heap.size,2,none⟩=_:=r1.c2;have c3:W1.drew.cell? ⟨w.heap.size,3,none⟩=_:=r1.c3
  refine pool_list [.val (.pointer (some ⟨w.heap.size,1,none⟩)),
      .val (.agg #[int u64 (px b),int u64 (py b),.bool (pb b)]),
      .val (.iface 75 (.agg #[int u64 (px b),int u64 (py b),.bool (pb b)])),
      .val (.pointer (some ⟨w.heap.size,0,none⟩)),
      .val (.string (ctxB k)),
      .val (.string ST),
      .val (.iface 211 (.string ST)),
      .new (.cells #[.iface 75 (.agg #[int u64 (px b),int u64 (py b),.bool (pb b)]),.iface 211 (.string ST)] 231) (.cells #[.iface 75 (.agg #[int u64 (px b),int u64 (py b),.bool (pb b)]),.iface 211 (.string ST)] 231) 1002,
      .val (.string SM),
      .new (.cells #[.string SM] 9) (.cells #[.string SM] 9) 1001,
      .val (.string (seedB k b)),
      .val (.string (seedB k b))] [[1],[7],[8],[1],[10],[11],[12],[9,13],[14],[15],[16],[17]] (fun f=> [(some 7,.pointer (some ⟨w.heap.size,1,none⟩)),(some 8,.agg #[int u64 (px b),int u64 (py b),.bool (pb b)]),(some 9,.iface 75 (.agg #[int u64 (px b),int u64 (py b),.bool (pb b)])),(some 10,.pointer (some ⟨w.heap.size,0,none⟩)),(some 11,.string (ctxB k)),(some 12,.string ST),(some 13,.iface 211 (.string ST)),(some 14,.slice (some ⟨f 7,0,none⟩) 2 2),(some 15,.string SM),(some 16,.slice (some ⟨f 9,0,none⟩) 1 1),(some 17,.string (seedB k b)),(some 3,.string (seedB k b))]) (by kernel_rfl) (by kernel_rfl) (by kernel_rfl) (by kernel_rfl) (fun _=>by kernel_rfl) ?_ ?_
  · intro ix hix
    match ix,hix with
    |0,_=>exact obv [(1,.pointer (some ⟨w.heap.size,0,none⟩))] rfl rfl (fun A w ⟨e0,_⟩ hB=>fa_bat1 e0)
    |1,_=>exact obv [(7,.pointer (some ⟨w.heap.size,1,none⟩))] rfl rfl (fun A w ⟨e0,_⟩ hB=>ld_cp e0 (keepC c1 hB) (keepC c2 hB) (keepC c3 hB))
    |2,_=>exact obv [(8,.agg #[int u64 (px b),int u64 (py b),.bool (pb b)])] rfl rfl (fun A w ⟨e0,_⟩ hB=>mi_cp e0)
    |3,_=>exact obv [(1,.pointer (some ⟨w.heap.size,0,none⟩))] rfl rfl (fun A w ⟨e0,_⟩ hB=>fa_bat0 e0)
    |4,_=>exact obv [(10,.pointer (some ⟨w.heap.size,0,none⟩))] rfl rfl (fun A w ⟨e0,_⟩ hB=>ld_ctx e0 (keepC c0 hB))
    |5,_=>exact obv [(11,.string (ctxB k))] rfl rfl (fun A w ⟨e0,_⟩ hB=>cl2 cf_impl_context_tag e0 rfl (hTG w))
    |6,_=>exact obv [(12,.string ST)] rfl rfl (fun A w ⟨e0,_⟩ hB=>mi_sized e0)
    |7,_=>exact ob_slc 2 [(9,.iface 75 (.agg #[int u64 (px b),int u64 (py b),.bool (pb b)])),(13,.iface 211 (.string ST))] rfl rfl (fun _=>by kernel_rfl) (fun A w ⟨e0,e1,_⟩=>sl_parts2 e0 e1)
    |8,_=>exact ob_use 14 7 1002 (.cells #[.iface 75 (.agg #[int u64 (px b),int u64 (py b),.bool (pb b)]),.iface 211 (.string ST)] 231) (fun f=> [(14,.slice (some ⟨f 7,0,none⟩) 2 2)]) rfl rfl (by decide) (by kernel_rfl) rfl (fun _=>by kernel_rfl) (fun f A w ⟨e0,_⟩ hB hr=>cl2 cf_impl_transcript_with rfl e0 (hWI 0 _ w hr))
    |9,_=>exact ob_slc 1 [(15,.string SM)] rfl rfl (fun _=>by kernel_rfl) (fun A w ⟨e0,_⟩=>sl_strs1 e0)
    |10,_=>exact ob_use 16 9 1001 (.cells #[.string SM] 9) (fun f=> [(16,.slice (some ⟨f 9,0,none⟩) 1 1)]) rfl rfl (by decide) (by kernel_rfl) rfl (fun _=>by kernel_rfl) (fun f A w ⟨e0,_⟩ hB hr=>cl1 cf_impl_hashOf e0 (hHS _ w (keepT hT1 hg1 hB) hr))
    |11,_=>exact obv [(17,.string (seedB k b))] rfl rfl (fun A w ⟨e0,_⟩ hB=>doV_assign e0)
    |ix+12,h=>exact absurd h (by simp)
  intro f W2 hb2 _ _;have hb2':Bl W1 W2:=(Below.refl _ W1).drew.trans hb2;replace r1:=r1.keep hb2';replace hb:=hb.tr hb2';clear c0 c1 c2 c3 hWI hHS hTG hb2 hb2' hT1 hg1;simp only [puts,List.foldl,Act.put,List.setIfInBounds_toArray,List.set_cons_zero,List.set_cons_succ];go_wp2_with fail;refine(hW1 _ _ (heap_alloc_new W2 _)).mono ?_;rintro e W3 ⟨rfl,b3⟩;replace r1:=(r1.alloc (Obj.cells #[.iface 211 (.string (seedB k b))] 231)).keep b3;replace hb:=hb.alloc hb.size (Obj.cells #[.iface 211 (.string (seedB k b))] 231);replace hb:=hb.tr b3;clear hW1 b3;have d4:=r1.c4;go_wp2;clear d4
  go_loopw [5,25] (fun ov iv wr=>∃j:Nat,j≤n∧iv= .int .i64 (j:Int)∧wr.ownsRow w.heap.size 86 1 ov j ((WS j).map (Value.int .u64))∧B6 wr w.heap.size (ctxB k) (px b) (py b) (pb b) (some ⟨g1,0,none⟩) n k1 (some ⟨g2,0,none⟩) n k2∧(∀t:TypeId,t≠78→True)∧Bl w wr) (fun _ i _=>n-(intOf i).toNat)
  case atStart=>exact ⟨0,by omega,rfl,by rw [hW0];exact World.ownsRow_nil _ _ _ _,r1,fun _ _=>trivial,hb⟩
  case round=>
    clear hW0 r1 hb;obtain⟨j,hj,rfl,hown,r1,-,hbl⟩:=hrel;have hsz:=hbl.size;by_cases hlt:j<n
    · have hli:(j:Int)<(n:Int):=by omega
      obtain⟨cp,dp,hcp,hdp,hnx⟩:=hst.out j hlt;have pc:=(hc.below hbl hc.lt).drew;have pd:=(hd.below hbl hd.lt).drew;have c0:=pc.c0 j cp hcp;have c1:=pc.c1 j cp hcp;have c2:=pc.c2 j cp hcp;have d0:=pd.c0 j dp hdp;have d1:=pd.c1 j dp hdp;have d2:=pd.c2 j dp hdp;have s0:wr.drew.cell? ⟨w.heap.size,0,none⟩=_:=r1.c0;have s4:wr.drew.cell? ⟨w.heap.size,4,none⟩=_:=r1.c4;have s5:wr.drew.cell? ⟨w.heap.size,5,none⟩=_:=r1.c5;have hTr:TabK wr.drew:=fun i hi=>(hbl.cell (p:=⟨7,i,none⟩) hgw).trans (hT i hi)
      have hgr0:7<wr.drew.heap.size:=Nat.lt_of_lt_of_le hgw hsz;have hWX:=writX j (by omega);have hWC:=writC cp;have hWD:=writC dp
      have hTX:(sizB (seedB k b)++numB j++sizB (ptB cp)++sizB (ptB dp)++compB).size=65:=by
        simp only [ByteArray.size_append,sizB_size,numB_size,ptB_size,hss];rw [show compB.size=9 from rfl]
      have hWT:∀(i:Nat) (w:World),w.heap[i]? =some (.cells #[.iface 222 (.int .i64 (j:Int)),.iface 75 (.agg #[int u64 (px cp),int u64 (py cp),.bool (pb cp)]),.iface 75 (.agg #[int u64 (px dp),int u64 (py dp),.bool (pb dp)]),.iface 196 (.string compB)] 231)→
          Cr 119 #[.string (sizB (seedB k b)),.slice (some ⟨i,0,none⟩) 4 4] w (.string (sizB (seedB k b)++numB j++sizB (ptB cp)++sizB (ptB dp)++compB)):=fun i w hr=>
        with_blk (sizB (seedB k b)) [(.iface 222 (.int .i64 (j:Int)),numB j),(.iface 75 (.agg #[int u64 (px cp),int u64 (py cp),.bool (pb cp)]),sizB (ptB cp)),(.iface 75 (.agg #[int u64 (px dp),int u64 (py dp),.bool (pb dp)]),sizB (ptB dp)),(.iface 196 (.string compB),compB)] i 4 _ _ w hr rfl rfl (by omega) (by
          intro vs hvs;simp only [List.mem_cons,List.not_mem_nil,or_false] at hvs;rcases hvs with rfl|rfl|rfl|rfl
          · exact hWX
          · exact hWC
          · exact hWD
          · exact writP compB) (Nat.le_trans (Nat.le_of_eq hTX) (by decide))
      have hSC:∀w:World,TabK w→Cr 118 #[.string (ctxB k),.string (sizB (seedB k b)++numB j++sizB (ptB cp)++sizB (ptB dp)++compB)] w (.agg #[int u64 (scaN (sizB (seedB k b)++numB j++sizB (ptB cp)++sizB (ptB dp)++compB) k:Nat)]):=fun w hT=>scaI_any _ k w hT hk (by rw [hTX];omega)
      clear hWX hWC hWD hTX hcp hdp pc pd;generalize hz:((scaN (sizB (seedB k b)++numB j++sizB (ptB cp)++sizB (ptB dp)++compB) k:Nat):Int)=z at*;clear hz;generalize hTXT:sizB (seedB k b)++numB j++sizB (ptB cp)++sizB (ptB dp)++compB=TXT at*;clear hTXT;generalize hSB:sizB (seedB k b)=SB at*;clear hSB;go_wp2
      refine pool_prT 23 [.val (u5),
          .val (.pointer (some ⟨w.heap.size,0,none⟩)),
          .val (.string (ctxB k)),
          .val (.string SB),
          .val (.int .i64 (j:Int)),
          .val (.iface 222 (.int .i64 (j:Int))),
          .val (.pointer (some ⟨w.heap.size,4,none⟩)),
          .val (.slice (some ⟨g1,0,none⟩) n k1),
          .val (.int .i64 (j:Int)),
          .val (.pointer (some ⟨g1,0+j*3,none⟩)),
          .val (.agg #[int u64 (px cp),int u64 (py cp),.bool (pb cp)]),
          .val (.iface 75 (.agg #[int u64 (px cp),int u64 (py cp),.bool (pb cp)])),
          .val (.pointer (some ⟨w.heap.size,5,none⟩)),
          .val (.slice (some ⟨g2,0,none⟩) n k2),
          .val (.int .i64 (j:Int)),
          .val (.pointer (some ⟨g2,0+j*3,none⟩)),
          .val (.agg #[int u64 (px dp),int u64 (py dp),.bool (pb dp)]),
          .val (.iface 75 (.agg #[int u64 (px dp),int u64 (py dp),.bool (pb dp)])),
          .val (.iface 196 (.string compB)),
          .new (.cells #[.iface 222 (.int .i64 (j:Int)),.iface 75 (.agg #[int u64 (px cp),int u64 (py cp),.bool (pb cp)]),.iface 75 (.agg #[int u64 (px dp),int u64 (py dp),.bool (pb dp)]),.iface 196 (.string compB)] 231) (.cells #[.iface 222 (.int .i64 (j:Int)),.iface 75 (.agg #[int u64 (px cp),int u64 (py cp),.bool (pb cp)]),.iface 75 (.agg #[int u64 (px dp),int u64 (py dp),.bool (pb dp)]),.iface 196 (.string compB)] 231) 1004,
          .val (.string TXT),
          .val (.agg #[int u64 z]),
          .new (.cells #[int u64 z] 86) (.cells #[int u64 z] 86) 1001] [[5],[1],[29],[4],[6],[32],[1],[34],[6],[35,36],[37],[38],[1],[40],[6],[41,42],[43],[44],[],[33,39,45,46],[31,47],[30,48],[49]] (fun f=> [(some 28,u5),(some 29,.pointer (some ⟨w.heap.size,0,none⟩)),(some 30,.string (ctxB k)),(some 31,.string SB),(some 32,.int .i64 (j:Int)),(some 33,.iface 222 (.int .i64 (j:Int))),(some 34,.pointer (some ⟨w.heap.size,4,none⟩)),(some 35,.slice (some ⟨g1,0,none⟩) n k1),(some 36,.int .i64 (j:Int)),(some 37,.pointer (some ⟨g1,0+j*3,none⟩)),(some 38,.agg #[int u64 (px cp),int u64 (py cp),.bool (pb cp)]),(some 39,.iface 75 (.agg #[int u64 (px cp),int u64 (py cp),.bool (pb cp)])),(some 40,.pointer (some ⟨w.heap.size,5,none⟩)),(some 41,.slice (some ⟨g2,0,none⟩) n k2),(some 42,.int .i64 (j:Int)),(some 43,.pointer (some ⟨g2,0+j*3,none⟩)),(some 44,.agg #[int u64 (px dp),int u64 (py dp),.bool (pb dp)]),(some 45,.iface 75 (.agg #[int u64 (px dp),int u64 (py dp),.bool (pb dp)])),(some 46,.iface 196 (.string compB)),(some 47,.slice (some ⟨f 19,0,none⟩) 4 4),(some 48,.string TXT),(some 49,.agg #[int u64 z]),(some 50,.slice (some ⟨f 22,0,none⟩) 1 1)]) (by kernel_rfl) (by kernel_rfl) (by kernel_rfl) (by kernel_rfl) (by decide) (by kernel_rfl) (fun _=>by kernel_rfl) ?_ ?_
      · intro ix hix
        match ix,hix with
        |0,_=>exact obv [(5,u5)] rfl rfl (fun A w ⟨e0,_⟩ hB=>doV_move e0)
        |1,_=>exact obv [(1,.pointer (some ⟨w.heap.size,0,none⟩))] rfl rfl (fun A w ⟨e0,_⟩ hB=>fa_bat0 e0)
        |2,_=>exact obv [(29,.pointer (some ⟨w.heap.size,0,none⟩))] rfl rfl (fun A w ⟨e0,_⟩ hB=>ld_ctx e0 (keepC s0 hB))
        |3,_=>exact obv [(4,.string SB)] rfl rfl (fun A w ⟨e0,_⟩ hB=>doV_move e0)
        |4,_=>exact obv [(6,.int .i64 (j:Int))] rfl rfl (fun A w ⟨e0,_⟩ hB=>doV_move e0)
        |5,_=>exact obv [(32,.int .i64 (j:Int))] rfl rfl (fun A w ⟨e0,_⟩ hB=>mi_index e0)
        |6,_=>exact obv [(1,.pointer (some ⟨w.heap.size,0,none⟩))] rfl rfl (fun A w ⟨e0,_⟩ hB=>fa_bat2 e0)
        |7,_=>exact obv [(34,.pointer (some ⟨w.heap.size,4,none⟩))] rfl rfl (fun A w ⟨e0,_⟩ hB=>ld_cpsl e0 (keepC s4 hB))
        |8,_=>exact obv [(6,.int .i64 (j:Int))] rfl rfl (fun A w ⟨e0,_⟩ hB=>doV_move e0)
        |9,_=>exact obv [(35,.slice (some ⟨g1,0,none⟩) n k1),(36,.int .i64 (j:Int))] rfl rfl (fun A w ⟨e0,e1,_⟩ hB=>ix_cps e0 e1 (by omega))
        |10,_=>exact obv [(37,.pointer (some ⟨g1,0+j*3,none⟩))] rfl rfl (fun A w ⟨e0,_⟩ hB=>ld_cp e0 (keepC c0 hB) (keepC c1 hB) (keepC c2 hB))
        |11,_=>exact obv [(38,.agg #[int u64 (px cp),int u64 (py cp),.bool (pb cp)])] rfl rfl (fun A w ⟨e0,_⟩ hB=>mi_cp e0)
        |12,_=>exact obv [(1,.pointer (some ⟨w.heap.size,0,none⟩))] rfl rfl (fun A w ⟨e0,_⟩ hB=>fa_bat3 e0)
        |13,_=>exact obv [(40,.pointer (some ⟨w.heap.size,5,none⟩))] rfl rfl (fun A w ⟨e0,_⟩ hB=>ld_cpsl e0 (keepC s5 hB))
        |14,_=>exact obv [(6,.int .i64 (j:Int))] rfl rfl (fun A w ⟨e0,_⟩ hB=>doV_move e0)
        |15,_=>exact obv [(41,.slice (some ⟨g2,0,none⟩) n k2),(42,.int .i64 (j:Int))] rfl rfl (fun A w ⟨e0,e1,_⟩ hB=>ix_cps e0 e1 (by omega))
        |16,_=>exact obv [(43,.pointer (some ⟨g2,0+j*3,none⟩))] rfl rfl (fun A w ⟨e0,_⟩ hB=>ld_cp e0 (keepC d0 hB) (keepC d1 hB) (keepC d2 hB))
        |17,_=>exact obv [(44,.agg #[int u64 (px dp),int u64 (py dp),.bool (pb dp)])] rfl rfl (fun A w ⟨e0,_⟩ hB=>mi_cp e0)
        |18,_=>exact obv [] rfl rfl (fun A w _ hB=>mi_plain rfl)
        |19,_=>exact ob_slc 4 [(33,.iface 222 (.int .i64 (j:Int))),(39,.iface 75 (.agg #[int u64 (px cp),int u64 (py cp),.bool (pb cp)])),(45,.iface 75 (.agg #[int u64 (px dp),int u64 (py dp),.bool (pb dp)])),(46,.iface 196 (.string compB))] rfl rfl (fun _=>by kernel_rfl) (fun A w ⟨e0,e1,e2,e3,_⟩=>sl_parts4 e0 e1 e2 e3)
        |20,_=>exact ob_use 47 19 1004 (.cells #[.iface 222 (.int .i64 (j:Int)),.iface 75 (.agg #[int u64 (px cp),int u64 (py cp),.bool (pb cp)]),.iface 75 (.agg #[int u64 (px dp),int u64 (py dp),.bool (pb dp)]),.iface 196 (.string compB)] 231) (fun f=> [(31,.string SB),(47,.slice (some ⟨f 19,0,none⟩) 4 4)]) rfl rfl (by decide) (by kernel_rfl) rfl (fun _=>by kernel_rfl) (fun f A w ⟨e0,e1,_⟩ hB hr=>cl2 cf_impl_transcript_with e0 e1 (hWT _ w hr))
        |21,_=>exact obv [(30,.string (ctxB k)),(48,.string TXT)] rfl rfl (fun A w ⟨e0,e1,_⟩ hB=>cl2 cf_impl_context_scalar e0 e1 (hSC w (keepT hTr hgr0 hB)))
        |22,_=>exact ob_slc 1 [(49,.agg #[int u64 z])] rfl rfl (fun _=>by kernel_rfl) (fun A w ⟨e0,_⟩=>sl_nN1 e0)
        |ix+23,h=>exact absurd h (by simp)
      intro f W4 hb4 hnew fuel hfuel;have hb4':Bl wr W4:=(Below.refl _ wr).drew.trans hb4;replace r1:=r1.keep hb4';have hown4:=below_own3 hown hb4';replace hbl:=hbl.tr hb4';have hs4:=hbl.size;have hcell:=(hnew 22 _ _ _ rfl (by decide)).2;clear c0 c1 c2 d0 d1 d2 s0 s4 s5 hTr hgr0 hWT hSC hb4 hb4' hown hsz;simp only [puts,List.foldl,Act.put,List.setIfInBounds_toArray,List.set_cons_zero,List.set_cons_succ]
      refine last_do2 23 24 hfuel (by kernel_rfl) (by kernel_rfl) (by kernel_rfl) rfl rfl rfl rfl
        (does_append_ow _ _ 189 rfl w.heap.size 86 i0 (.agg #[int u64 0]) 1 8 underlying189 hi hz0 hz1 hz2 rfl (by decide) u5 j ((WS j).map (Value.int .u64)) rfl hown4 ⟨f 22,0,none⟩ 1 1 [int u64 z] rfl rfl (World.news_of_block (cs:=#[int u64 z]) hcell) (by simp [Value.oneCell']) (by decide) (by unfold maxLen;omega) (by omega) hs4) ?_
      rintro v w' ⟨g3,cap3,rfl,hown5,hgr⟩;refine does_value (execS_assign rfl) ?_;have R1:w'.ownsRow w.heap.size 86 1 (.slice (some ⟨g3,0,none⟩) (j+1) cap3) (j+1) ((WS (j+1)).map (Value.int .u64)):=by rw [hnx,List.map_append];exact hown5
      have R2:Bl w w':=hbl.grown hgr hs4 (fun r hr=>(hown4.lt r hr).1)
      have R3':B6 w' w.heap.size (ctxB k) (px b) (py b) (pb b) (some ⟨g1,0,none⟩) n k1 (some ⟨g2,0,none⟩) n k2:=by
        exact(hgr.block w.heap.size r1.lt (fun e=>own_ne hown4 r1 (by decide) e.symm)).trans r1
      clear hown5 hgr hnew hcell hown4 hbl r1;simp only [Act.put,List.setIfInBounds_toArray];go_wp2;go_roundw
      case rel=>
        first
          |exact ⟨j+1,by omega,by go_num,R1,R3',fun _ _=>trivial,R2⟩
          |((repeat apply Exists.intro);exact⟨⟨j+1,by omega,by go_num,R1,R3',fun _ _=>trivial,R2⟩,rfl⟩)
      case measure=>simp [intOf];omega
    · obtain rfl:j=n:=by omega
      obtain⟨g,cap,rfl⟩:∃g cap,u5= .slice (some ⟨g,0,none⟩) j cap:=by
        rcases hown.2 with ⟨_,h0⟩|⟨g,cap,cur,hv,-⟩
        · omega
        · exact⟨g,cap,hv⟩
      go_wp2;go_ret;exact⟨g,cap,rfl,hown,hbl⟩
end
end Go.Proofs.YtmjniccfjffclaaGreatDoor
