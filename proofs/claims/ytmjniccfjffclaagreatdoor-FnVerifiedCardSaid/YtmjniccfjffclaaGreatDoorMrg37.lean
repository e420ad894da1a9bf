import Derived.Test.YtmjniccfjffclaaGreatDoorMrg36
set_option linter.unusedVariables false
set_option maxRecDepth 100000
set_option maxHeartbeats 16000000
namespace Go.Proofs.YtmjniccfjffclaaGreatDoor
open Go.Proofs.Tryz Go.RowKit
open Go.Value (int)
open Go.IntKind (u64)
section
open M
def DfC (h:Nat)(m:Int)(s t:ByteArray)(n:Nat)(ce:List Value)(pc ps:Nat)(b:List Value)(tp u:List Value)(s' t':ByteArray)(n':Nat)(ce':List Value)(pc' ps':Nat)(b' tp':List Value):Prop:=
  (h=0∧s'=s∧t'=t∧n'=n∧ce'=ce∧pc'=pc∧ps'=ps∧b'=b∧tp'=u)∨
  (h=1∧s'=s∧t'=t∧n'=n∧ce'=ce∧pc'=pc∧ps'=ps∧b'=u++b.drop 3∧tp'=tp)∨
  (h=2∧s'=s∧t'=t∧n'=n∧ce'=ce∧pc'=pc∧ps'=ps∧b'=b.take 3++u∧tp'=tp)∨
  (h=3∧s'=s∧t'=t∧n'=1∧ce'=u∧pc'=pc∧ps'=ps∧b'=b∧tp'=tp)∨
  (h=4∧s'=s∧t'=t∧n'=n∧ce'=ce∧pc'=pc∧ps'=ps+1∧b'=b∧tp'=tp)∨
  (h=5∧s'=s∧t'=t∧n'=n∧ce'=ce∧pc'=pc+2305843010818082053∧ps'=ps∧b'=b∧tp'=tp)∨
  (h=6∧s'=s∧t'=t∧n'=n+1∧ce'=ce++u∧pc'=pc∧ps'=ps∧b'=b∧tp'=tp)∨
  (h=7∧s'=s++⟨#[120]⟩∧t'=t∧n'=n∧ce'=ce∧pc'=pc∧ps'=ps∧b'=b∧tp'=tp)∨
  (h=8∧m=2∧s'=s∧t'=t++⟨#[120]⟩∧n'=n∧ce'=ce∧pc'=pc∧ps'=ps∧b'=b∧tp'=tp)∨
  ((9≤h∨h=8∧ ¬ m=2)∧s'=s∧t'=t∧n'=n∧ce'=ce∧pc'=pc∧ps'=ps∧b'=b∧tp'=tp)
section
variable {W:World}{t:TypeId}{b b':Nat}{cs:Array Value}
theorem Bk.other3 (h:Bk W t b cs)(hne:b≠b')(i j k:Nat)(x y z:Value):Bk (((W.setCell ⟨b',i,none⟩ x).setCell ⟨b',j,none⟩ y).setCell ⟨b',k,none⟩ z) t b cs:=((h.other hne i x).other hne j y).other hne k z
theorem own_set3 {base:Nat}{e:TypeId}{s:Nat}{v:Value}{n:Nat}{xs:List Value}(h:W.ownsRow base e s v n xs)(hne:some b'≠v.ownBlock)(i j k:Nat)(x y z:Value):(((W.setCell ⟨b',i,none⟩ x).setCell ⟨b',j,none⟩ y).setCell ⟨b',k,none⟩ z).ownsRow base e s v n xs:=own_set (own_set (own_set h hne i x) hne j y) hne k z
theorem below_set3 {B:Nat}{w:World}(h:Below B w W)(hb:B≤b')(i j k:Nat)(x y z:Value):Below B w (((W.setCell ⟨b',i,none⟩ x).setCell ⟨b',j,none⟩ y).setCell ⟨b',k,none⟩ z):=((h.setCell (p:=⟨b',i,none⟩) hb x).setCell (p:=⟨b',j,none⟩) hb y).setCell (p:=⟨b',k,none⟩) hb z
theorem own_lo {base:Nat}{e:TypeId}{s:Nat}{v:Value}{n:Nat}{xs:List Value}(h:W.ownsRow base e s v n xs)(hb:b<base):some b≠v.ownBlock:=fun e=>absurd (h.lt b e.symm).1 (by omega)
end
theorem dfn_of (v:Value)(w:World)(m P1 P2 P3 P4 P5 P6 X Y x y b0 b1 b3 b4 bc ec r':Int)(s t s' t':ByteArray)(k bl r h n n' pc ps pc' ps':Nat)(c C b2 b5:Bool)(ce ce':List Value)(b' tp':List Value)
    (TX:Cb w 24 #[v,.int .i64 0] (.tuple #[.int .i64 m,.string s,.string t,.int .i64 P1]))
    (K1:Cb w 25 #[v,.int .i64 P1] (.tuple #[int u64 k,.int .i64 P2]))
    (K2:Cb w 25 #[v,.int .i64 P2] (.tuple #[int u64 bl,.int .i64 P3]))
    (SC:Cb w 27 #[v,.int .i64 P3] (.tuple #[int u64 r,.int .i64 P4]))
    (TK:∀w',Bl w w'→Calls prog 26 #[v,.int .i64 P4,.int .i64 24] w' fun e w''=>e= .returned (.tuple #[.int .i64 h,.int .i64 P5])∧w'=w'')
    (AP:Cb w 45 #[v,.int .i64 P5] (.tuple #[.agg #[int u64 x,int u64 y,.bool c],.int .i64 P6]))
    (BS:Cc 16 #[] (.agg #[int u64 1,int u64 509478702933351334,.bool false]))
    (TM:Cc 15 #[int u64 k,.agg #[int u64 1,int u64 509478702933351334,.bool false]] (.agg #[int u64 X,int u64 Y,.bool C]))
    (BL:Cc 17 #[.int .i64 m,.string s,.string t,.agg #[int u64 X,int u64 Y,.bool C],int u64 bl] (.tuple #[.agg #[int u64 b0,int u64 b1,.bool b2,int u64 b3,int u64 b4,.bool b5],.int .i64 bc]))
    (hr':(r:Int)%2305843010818082053=r')
    (EV:∀w' g,Bk w' 34 g #[int u64 b0,int u64 b1,.bool b2]→Calls prog 7 #[.int .i64 m,int u64 k,.string t,.slice (some ⟨g,0,none⟩) 1 1,int u64 r'] w' fun e w''=>∃z,e= .returned (.tuple #[.agg #[z,int u64 pc,int u64 ps],.int .i64 ec])∧w''.ownsRow w'.heap.size 34 3 z n ce∧Bl w' w'')
    (hs:s.size≤65537)(ht:t.size≤65537)(hpc:pc<2305843010818082053)(hps:ps<2305843010818082053)(hn:n≤1000)
    (hC:DfC h m s t n ce pc ps [int u64 b0,int u64 b1,.bool b2,int u64 b3,int u64 b4,.bool b5] [int u64 X,int u64 Y,.bool C] [int u64 x,int u64 y,.bool c] s' t' n' ce' pc' ps' b' tp'):
    Calls prog 22 #[v] w fun e w'=>(∃z,e= .returned (.tuple #[.int .i64 m,.string s',.string t',int u64 bl,.agg #[z,int u64 pc',int u64 ps'],.agg b'.toArray,.agg tp'.toArray])∧w'.ownsRow w.heap.size 34 3 z n' ce')∧Bl w w':=by
  obtain⟨Z,hZ⟩:∃Z,Z=((w.alloc (Obj.cells #[.slice none 0 0,int u64 0,int u64 0] 30)).alloc (Obj.cells #[int u64 0,int u64 0,.bool false,int u64 0,int u64 0,.bool false] 39)).alloc (Obj.cells #[int u64 0,int u64 0,.bool false] 34):=⟨_,rfl⟩;have r6:Bk Z 30 w.heap.size #[.slice none 0 0,int u64 0,int u64 0]:=by rw [hZ];exact((Bk.new _ _ _).alloc _).alloc _
  have r7:Bk Z 39 (w.heap.size+1) #[int u64 0,int u64 0,.bool false,int u64 0,int u64 0,.bool false]:=by rw [hZ];exact((Bk.new _ _ _).at (by simp)).alloc _
  have r8:Bk Z 34 (w.heap.size+1+1) #[int u64 0,int u64 0,.bool false]:=by rw [hZ];exact(Bk.new _ _ _).at (by simp)
  have hb:Bl w Z:=by rw [hZ];exact(((Below.refl _ w).alloc (Nat.le_refl _) _).alloc (by simp) _).alloc (by simp;omega) _
  rw [hZ] at r6 r7 r8 hb;clear hZ;go_enter func22,ntmps22;go_wp2_with fail;refine(TX _ hb).mono ?_;rintro e w1 ⟨rfl,b⟩;replace r6:=r6.keep b;replace r7:=r7.keep b;replace r8:=r8.keep b;replace hb:=hb.tr b;clear b TX;go_wp2_with fail;refine(K1 _ hb).mono ?_;rintro e w2 ⟨rfl,b⟩;replace r6:=r6.keep b;replace r7:=r7.keep b;replace r8:=r8.keep b;replace hb:=hb.tr b;clear b K1;go_wp2_with fail;refine(K2 _ hb).mono ?_;rintro e w3 ⟨rfl,b⟩;replace r6:=r6.keep b;replace r7:=r7.keep b;replace r8:=r8.keep b;replace hb:=hb.tr b;clear b K2;go_wp2_with fail;refine(SC _ hb).mono ?_;rintro e w4 ⟨rfl,b⟩;replace r6:=r6.keep b;replace r7:=r7.keep b;replace r8:=r8.keep b;replace hb:=hb.tr b;clear b SC;go_wp2_with fail;refine(TK _ hb).mono ?_;rintro e w5 ⟨rfl,rfl⟩;clear TK;go_wp2_with fail;refine(AP _ hb).mono ?_;rintro e w6 ⟨rfl,b⟩;have hal:=balc w6 (Obj.cells #[int u64 x,int u64 y,.bool c] 34);have r21:=Bk.new w6 34 #[int u64 x,int u64 y,.bool c];have l21:w.heap.size+1+1<w6.heap.size:=Nat.lt_of_lt_of_le r8.lt b.size;replace r6:=(r6.keep b).keep hal;replace r7:=(r7.keep b).keep hal;replace r8:=(r8.keep b).keep hal;replace hb:=hb.tr b;replace hb:=hb.tr hal;clear b hal AP;go_wp2_with fail;refine(BS _).mono ?_;rintro e w7 ⟨rfl,b⟩;replace r6:=r6.keep b;replace r7:=r7.keep b;replace r8:=r8.keep b;replace r21:=r21.keep b;replace hb:=hb.tr b;clear b BS;go_wp2_with fail;refine(TM _).mono ?_;rintro e w8 ⟨rfl,b⟩;have hal:=balc w8 (Obj.cells #[int u64 X,int u64 Y,.bool C] 34);have r23:=Bk.new w8 34 #[int u64 X,int u64 Y,.bool C];have l23:w6.heap.size<w8.heap.size:=Nat.lt_of_lt_of_le r21.lt b.size;replace r6:=(r6.keep b).keep hal;replace r7:=(r7.keep b).keep hal;replace r8:=(r8.keep b).keep hal;replace r21:=(r21.keep b).keep hal;replace hb:=hb.tr b;replace hb:=hb.tr hal;clear b hal TM;have c0:=r23.cell (k:=0) rfl;have c1:=r23.cell (k:=1) rfl;have c2:=r23.cell (k:=2) rfl;go_wp2_with fail;refine(BL _).mono ?_;rintro e w9 ⟨rfl,b⟩;have hal:=balc w9 (Obj.cells #[int u64 b0,int u64 b1,.bool b2,int u64 b3,int u64 b4,.bool b5] 39);have r24:=Bk.new w9 39 #[int u64 b0,int u64 b1,.bool b2,int u64 b3,int u64 b4,.bool b5];have l24:w8.heap.size<w9.heap.size:=Nat.lt_of_lt_of_le r23.lt b.size;replace r6:=(r6.keep b).keep hal;replace r7:=(r7.keep b).keep hal;replace r8:=(r8.keep b).keep hal;replace r21:=(r21.keep b).keep hal;replace r23:=(r23.keep b).keep hal;replace hb:=hb.tr b;replace hb:=hb.tr hal;clear b hal BL c0 c1 c2;have c0:=r24.cell (k:=0) rfl;have c1:=r24.cell (k:=1) rfl;have c2:=r24.cell (k:=2) rfl;have c3:=r24.cell (k:=3) rfl;have c4:=r24.cell (k:=4) rfl;have c5:=r24.cell (k:=5) rfl;go_wp2_with fail;have bE:=(Below.refl _ (w9.alloc (Obj.cells #[int u64 b0,int u64 b1,.bool b2,int u64 b3,int u64 b4,.bool b5] 39))).alloc (Nat.le_refl _) (Obj.cells #[int u64 b0,int u64 b1,.bool b2] 34);have l26:=r24.lt;refine(EV _ (w9.heap.size+1) ((Bk.new (w9.alloc (Obj.cells #[int u64 b0,int u64 b1,.bool b2,int u64 b3,int u64 b4,.bool b5] 39)) 34 #[int u64 b0,int u64 b1,.bool b2]).at (by simp))).mono ?_;rintro e w10 ⟨z,rfl,ho,b⟩;have hal:=balc w10 (Obj.cells #[.slice none 0 0,int u64 0,int u64 0] 30);have r26:=Bk.new w10 30 #[.slice none 0 0,int u64 0,int u64 0];replace b:=bE.tr b;have l26:w9.heap.size<w10.heap.size:=Nat.lt_of_lt_of_le r24.lt b.size;replace ho:=(ho.mono (base':=w9.heap.size) (by simp;omega)).alloc (Obj.cells #[.slice none 0 0,int u64 0,int u64 0] 30);replace r6:=(r6.keep b).keep hal;replace r7:=(r7.keep b).keep hal;replace r8:=(r8.keep b).keep hal;replace r21:=(r21.keep b).keep hal;replace r23:=(r23.keep b).keep hal;replace r24:=(r24.keep b).keep hal;replace hb:=hb.tr b;replace hb:=hb.tr hal;clear b hal bE EV c0 c1 c2 c3 c4 c5;have hth:=r26.there 3 (by decide);have hone:=onev ho pc ps;obtain⟨W,hW⟩:∃W,W=World.setCells (w10.alloc (Obj.cells #[.slice none 0 0,int u64 0,int u64 0] 30)) w10.heap.size 0 [z,int u64 pc,int u64 ps]:=⟨_,rfl⟩;replace ho:W.ownsRow w9.heap.size 34 3 z n ce:=by rw [hW];exact own_sets ho (own_ne_bk ho r26 (by decide)) 0 _
  replace r26:Bk W 30 w10.heap.size #[z,int u64 pc,int u64 ps]:=by rw [hW];exact r26.sets [z,int u64 pc,int u64 ps] rfl
  replace r6:=r6.setsO (b':=w10.heap.size) (by omega) 0 [z,int u64 pc,int u64 ps];replace r7:=r7.setsO (b':=w10.heap.size) (by omega) 0 [z,int u64 pc,int u64 ps];replace r8:=r8.setsO (b':=w10.heap.size) (by omega) 0 [z,int u64 pc,int u64 ps];replace r21:=r21.setsO (b':=w10.heap.size) (by omega) 0 [z,int u64 pc,int u64 ps];replace r23:=r23.setsO (b':=w10.heap.size) (by omega) 0 [z,int u64 pc,int u64 ps];replace r24:=r24.setsO (b':=w10.heap.size) (by omega) 0 [z,int u64 pc,int u64 ps];rw [←hW] at r6 r7 r8 r21 r23 r24;replace hb:Bl w W:=by rw [hW];exact below_setCells hb (show w.heap.size≤w10.heap.size by omega) 0 _
  have k0:=r21.cell (k:=0) rfl;have k1:=r21.cell (k:=1) rfl;have k2:=r21.cell (k:=2) rfl;have e0:=r26.cell (k:=0) rfl;have e1:=r26.cell (k:=1) rfl;have e2:=r26.cell (k:=2) rfl;have e3:=r26.frz;unfold DfC at hC;rcases hC with ⟨rfl,rfl,rfl,rfl,rfl,rfl,rfl,rfl,rfl⟩|⟨rfl,rfl,rfl,rfl,rfl,rfl,rfl,rfl,rfl⟩|⟨rfl,rfl,rfl,rfl,rfl,rfl,rfl,rfl,rfl⟩|⟨rfl,rfl,rfl,rfl,rfl,rfl,rfl,rfl,rfl⟩|⟨rfl,rfl,rfl,rfl,rfl,rfl,rfl,rfl,rfl⟩|⟨rfl,rfl,rfl,rfl,rfl,rfl,rfl,rfl,rfl⟩|⟨rfl,rfl,rfl,rfl,rfl,rfl,rfl,rfl,rfl⟩|⟨rfl,rfl,rfl,rfl,rfl,rfl,rfl,rfl,rfl⟩|⟨rfl,rfl,rfl,rfl,rfl,rfl,rfl,rfl,rfl,rfl⟩|⟨hh,rfl,rfl,rfl,rfl,rfl,rfl,rfl,rfl⟩
  · have f0:=r23.frz;have d0:=r23.cell (k:=0) rfl;have d1:=r23.cell (k:=1) rfl;have d2:=r23.cell (k:=2) rfl;go_wp2_with (refine wpList_store_mid rfl 30 _ _ rfl w10.heap.size 0 #[z,int u64 pc',int u64 ps'] rfl rfl hth sizeEvd hone ?_;generalize hV:World.setCells _ _ _ _=V;obtain rfl:V=W:=hV.symm.trans hW.symm;clear hV hW);have s23:Bk (((V.setCell ⟨w8.heap.size,0,none⟩ (int u64 x)).setCell ⟨w8.heap.size,1,none⟩ (int u64 y)).setCell ⟨w8.heap.size,2,none⟩ (.bool c)) 34 w8.heap.size #[int u64 x,int u64 y,.bool c]:=((r23.set 0 (int u64 x)).set 1 (int u64 y)).set 2 (.bool c);refine dfn_end w _ (z) pc' ps' bl n' ce' w9.heap.size w8.heap.size w9.heap.size w10.heap.size (r6.other3 (b':=w8.heap.size) (by omega) 0 1 2 (int u64 x) (int u64 y) (.bool c)) (r7.other3 (b':=w8.heap.size) (by omega) 0 1 2 (int u64 x) (int u64 y) (.bool c)) (r8.other3 (b':=w8.heap.size) (by omega) 0 1 2 (int u64 x) (int u64 y) (.bool c)) s23 (r24.other3 (b':=w8.heap.size) (by omega) 0 1 2 (int u64 x) (int u64 y) (.bool c)) (r26.other3 (b':=w8.heap.size) (by omega) 0 1 2 (int u64 x) (int u64 y) (.bool c)) (by omega) (by omega) (by omega) (by omega) (own_set3 ho (own_lo ho l24) 0 1 2 (int u64 x) (int u64 y) (.bool c)) (below_set3 hb (show w.heap.size≤w8.heap.size by omega) 0 1 2 (int u64 x) (int u64 y) (.bool c)) ?_;intro W9 p6 p7 p8 po pb;go_wp2;exact bodyPost_ret (v:= .tuple #[_,_,_,_,.agg #[z,int u64 pc',int u64 ps'],.agg _,.agg _]) (res_4t3c results22 _ rfl rfl rfl p6 p7 p8 rfl rfl rfl) rfl ⟨⟨_,rfl,po⟩,pb⟩
  · have f0:=r24.frz;have d0:=r24.cell (k:=0) rfl;have d1:=r24.cell (k:=1) rfl;have d2:=r24.cell (k:=2) rfl;have d3:=r24.cell (k:=3) rfl;have d4:=r24.cell (k:=4) rfl;have d5:=r24.cell (k:=5) rfl;go_wp2_with (refine wpList_store_mid rfl 30 _ _ rfl w10.heap.size 0 #[z,int u64 pc',int u64 ps'] rfl rfl hth sizeEvd hone ?_;generalize hV:World.setCells _ _ _ _=V;obtain rfl:V=W:=hV.symm.trans hW.symm;clear hV hW);have s24:Bk (((V.setCell ⟨w9.heap.size,0,none⟩ (int u64 x)).setCell ⟨w9.heap.size,1,none⟩ (int u64 y)).setCell ⟨w9.heap.size,2,none⟩ (.bool c)) 39 w9.heap.size #[int u64 x,int u64 y,.bool c,int u64 b3,int u64 b4,.bool b5]:=((r24.set 0 (int u64 x)).set 1 (int u64 y)).set 2 (.bool c);refine dfn_end w _ (z) pc' ps' bl n' ce' w9.heap.size w8.heap.size w9.heap.size w10.heap.size (r6.other3 (b':=w9.heap.size) (by omega) 0 1 2 (int u64 x) (int u64 y) (.bool c)) (r7.other3 (b':=w9.heap.size) (by omega) 0 1 2 (int u64 x) (int u64 y) (.bool c)) (r8.other3 (b':=w9.heap.size) (by omega) 0 1 2 (int u64 x) (int u64 y) (.bool c)) (r23.other3 (b':=w9.heap.size) (by omega) 0 1 2 (int u64 x) (int u64 y) (.bool c)) s24 (r26.other3 (b':=w9.heap.size) (by omega) 0 1 2 (int u64 x) (int u64 y) (.bool c)) (by omega) (by omega) (by omega) (by omega) (own_set3 ho (own_ne_bk ho r24 (by decide)) 0 1 2 (int u64 x) (int u64 y) (.bool c)) (below_set3 hb (show w.heap.size≤w9.heap.size by omega) 0 1 2 (int u64 x) (int u64 y) (.bool c)) ?_;intro W9 p6 p7 p8 po pb;go_wp2;exact bodyPost_ret (v:= .tuple #[_,_,_,_,.agg #[z,int u64 pc',int u64 ps'],.agg _,.agg _]) (res_4t3c results22 _ rfl rfl rfl p6 p7 p8 rfl rfl rfl) rfl ⟨⟨_,rfl,po⟩,pb⟩
  · have f0:=r24.frz;have d0:=r24.cell (k:=0) rfl;have d1:=r24.cell (k:=1) rfl;have d2:=r24.cell (k:=2) rfl;have d3:=r24.cell (k:=3) rfl;have d4:=r24.cell (k:=4) rfl;have d5:=r24.cell (k:=5) rfl;go_wp2_with (refine wpList_store_mid rfl 30 _ _ rfl w10.heap.size 0 #[z,int u64 pc',int u64 ps'] rfl rfl hth sizeEvd hone ?_;generalize hV:World.setCells _ _ _ _=V;obtain rfl:V=W:=hV.symm.trans hW.symm;clear hV hW);have s24:Bk (((V.setCell ⟨w9.heap.size,3,none⟩ (int u64 x)).setCell ⟨w9.heap.size,4,none⟩ (int u64 y)).setCell ⟨w9.heap.size,5,none⟩ (.bool c)) 39 w9.heap.size #[int u64 b0,int u64 b1,.bool b2,int u64 x,int u64 y,.bool c]:=((r24.set 3 (int u64 x)).set 4 (int u64 y)).set 5 (.bool c);refine dfn_end w _ (z) pc' ps' bl n' ce' w9.heap.size w8.heap.size w9.heap.size w10.heap.size (r6.other3 (b':=w9.heap.size) (by omega) 3 4 5 (int u64 x) (int u64 y) (.bool c)) (r7.other3 (b':=w9.heap.size) (by omega) 3 4 5 (int u64 x) (int u64 y) (.bool c)) (r8.other3 (b':=w9.heap.size) (by omega) 3 4 5 (int u64 x) (int u64 y) (.bool c)) (r23.other3 (b':=w9.heap.size) (by omega) 3 4 5 (int u64 x) (int u64 y) (.bool c)) s24 (r26.other3 (b':=w9.heap.size) (by omega) 3 4 5 (int u64 x) (int u64 y) (.bool c)) (by omega) (by omega) (by omega) (by omega) (own_set3 ho (own_ne_bk ho r24 (by decide)) 3 4 5 (int u64 x) (int u64 y) (.bool c)) (below_set3 hb (show w.heap.size≤w9.heap.size by omega) 3 4 5 (int u64 x) (int u64 y) (.bool c)) ?_;intro W9 p6 p7 p8 po pb;go_wp2;exact bodyPost_ret (v:= .tuple #[_,_,_,_,.agg #[z,int u64 pc',int u64 ps'],.agg _,.agg _]) (res_4t3c results22 _ rfl rfl rfl p6 p7 p8 rfl rfl rfl) rfl ⟨⟨_,rfl,po⟩,pb⟩
  · have a0:=(r26.alloc (Obj.cells #[int u64 x,int u64 y,.bool c] 34)).cell (k:=0) rfl;have a3:=(r26.alloc (Obj.cells #[int u64 x,int u64 y,.bool c] 34)).frz;have lW:=r26.lt;go_wp2_with (refine wpList_store_mid rfl 30 _ _ rfl w10.heap.size 0 #[z,int u64 pc',int u64 ps'] rfl rfl hth sizeEvd hone ?_;generalize hV:World.setCells _ _ _ _=V;obtain rfl:V=W:=hV.symm.trans hW.symm;clear hV hW);have s26:Bk ((V.setCell ⟨w10.heap.size,0,none⟩ (.slice (some ⟨V.heap.size,0,none⟩) 1 1)).alloc (Obj.cells #[int u64 x,int u64 y,.bool c] 34)) 30 w10.heap.size #[.slice (some ⟨V.heap.size,0,none⟩) 1 1,int u64 pc',int u64 ps']:=(r26.set 0 _).alloc _;have hb1:=hb.setCell (p:=⟨w10.heap.size,0,none⟩) (show w.heap.size≤w10.heap.size by omega) (.slice (some ⟨V.heap.size,0,none⟩) 1 1);have so:=World.ownsRow_lit (base:=w9.heap.size) (e:=34) (size:=3) (V.setCell ⟨w10.heap.size,0,none⟩ (.slice (some ⟨V.heap.size,0,none⟩) 1 1)) #[int u64 x,int u64 y,.bool c] 1 (by simp;omega) (by decide) rfl;rw [show (V.setCell ⟨w10.heap.size,0,none⟩ (.slice (some ⟨V.heap.size,0,none⟩) 1 1)).heap.size=V.heap.size by simp] at so;refine dfn_end w _ (.slice (some ⟨V.heap.size,0,none⟩) 1 1) pc' ps' bl 1 [int u64 x,int u64 y,.bool c] w9.heap.size w8.heap.size w9.heap.size w10.heap.size ((r6.other (b':=w10.heap.size) (by omega) 0 (.slice (some ⟨V.heap.size,0,none⟩) 1 1)).alloc (Obj.cells #[int u64 x,int u64 y,.bool c] 34)) ((r7.other (b':=w10.heap.size) (by omega) 0 (.slice (some ⟨V.heap.size,0,none⟩) 1 1)).alloc (Obj.cells #[int u64 x,int u64 y,.bool c] 34)) ((r8.other (b':=w10.heap.size) (by omega) 0 (.slice (some ⟨V.heap.size,0,none⟩) 1 1)).alloc (Obj.cells #[int u64 x,int u64 y,.bool c] 34)) ((r23.other (b':=w10.heap.size) (by omega) 0 (.slice (some ⟨V.heap.size,0,none⟩) 1 1)).alloc (Obj.cells #[int u64 x,int u64 y,.bool c] 34)) ((r24.other (b':=w10.heap.size) (by omega) 0 (.slice (some ⟨V.heap.size,0,none⟩) 1 1)).alloc (Obj.cells #[int u64 x,int u64 y,.bool c] 34)) s26 (by omega) (by omega) (by omega) (by omega) so (hb1.alloc hb1.size (Obj.cells #[int u64 x,int u64 y,.bool c] 34)) ?_;intro W9 p6 p7 p8 po pb;go_wp2;exact bodyPost_ret (v:= .tuple #[_,_,_,_,.agg #[.slice (some ⟨V.heap.size,0,none⟩) 1 1,int u64 pc',int u64 ps'],.agg _,.agg _]) (res_4t3c results22 _ rfl rfl rfl p6 p7 p8 rfl rfl rfl) rfl ⟨⟨_,rfl,po⟩,pb⟩
  · have ea:IntKind.u64.wrap ((ps:Int)+1)=(ps:Int)+1:=by rw [IntKind.wrap_u64];omega
    go_wp2_with (refine wpList_store_mid rfl 30 _ _ rfl w10.heap.size 0 #[z,int u64 pc',int u64 ps] rfl rfl hth sizeEvd hone ?_;generalize hV:World.setCells _ _ _ _=V;obtain rfl:V=W:=hV.symm.trans hW.symm;clear hV hW);have s26:Bk (V.setCell ⟨w10.heap.size,2,none⟩ (int u64 ((ps+1:Nat):Int))) 30 w10.heap.size #[z,int u64 pc',int u64 ((ps+1:Nat):Int)]:=r26.set 2 (int u64 ((ps+1:Nat):Int));refine dfn_end w _ (z) pc' (ps+1) bl n' ce' w9.heap.size w8.heap.size w9.heap.size w10.heap.size (r6.other (b':=w10.heap.size) (by omega) 2 (int u64 ((ps+1:Nat):Int))) (r7.other (b':=w10.heap.size) (by omega) 2 (int u64 ((ps+1:Nat):Int))) (r8.other (b':=w10.heap.size) (by omega) 2 (int u64 ((ps+1:Nat):Int))) (r23.other (b':=w10.heap.size) (by omega) 2 (int u64 ((ps+1:Nat):Int))) (r24.other (b':=w10.heap.size) (by omega) 2 (int u64 ((ps+1:Nat):Int))) s26 (by omega) (by omega) (by omega) (by omega) (own_set ho (own_ne_bk ho r26 (by decide)) 2 (int u64 ((ps+1:Nat):Int))) (hb.setCell (p:=⟨w10.heap.size,2,none⟩) (show w.heap.size≤w10.heap.size by omega) (int u64 ((ps+1:Nat):Int))) ?_;intro W9 p6 p7 p8 po pb;go_wp2;exact bodyPost_ret (v:= .tuple #[_,_,_,_,.agg #[z,int u64 pc',int u64 ((ps+1:Nat):Int)],.agg _,.agg _]) (res_4t3c results22 _ rfl rfl rfl p6 p7 p8 rfl rfl rfl) rfl ⟨⟨_,rfl,po⟩,pb⟩
  · have ea:IntKind.u64.wrap ((pc:Int)+2305843010818082053)=(pc:Int)+2305843010818082053:=by rw [IntKind.wrap_u64];omega
    go_wp2_with (refine wpList_store_mid rfl 30 _ _ rfl w10.heap.size 0 #[z,int u64 pc,int u64 ps'] rfl rfl hth sizeEvd hone ?_;generalize hV:World.setCells _ _ _ _=V;obtain rfl:V=W:=hV.symm.trans hW.symm;clear hV hW);have s26:Bk (V.setCell ⟨w10.heap.size,1,none⟩ (int u64 ((pc+2305843010818082053:Nat):Int))) 30 w10.heap.size #[z,int u64 ((pc+2305843010818082053:Nat):Int),int u64 ps']:=r26.set 1 (int u64 ((pc+2305843010818082053:Nat):Int));refine dfn_end w _ (z) (pc+2305843010818082053) ps' bl n' ce' w9.heap.size w8.heap.size w9.heap.size w10.heap.size (r6.other (b':=w10.heap.size) (by omega) 1 (int u64 ((pc+2305843010818082053:Nat):Int))) (r7.other (b':=w10.heap.size) (by omega) 1 (int u64 ((pc+2305843010818082053:Nat):Int))) (r8.other (b':=w10.heap.size) (by omega) 1 (int u64 ((pc+2305843010818082053:Nat):Int))) (r23.other (b':=w10.heap.size) (by omega) 1 (int u64 ((pc+2305843010818082053:Nat):Int))) (r24.other (b':=w10.heap.size) (by omega) 1 (int u64 ((pc+2305843010818082053:Nat):Int))) s26 (by omega) (by omega) (by omega) (by omega) (own_set ho (own_ne_bk ho r26 (by decide)) 1 (int u64 ((pc+2305843010818082053:Nat):Int))) (hb.setCell (p:=⟨w10.heap.size,1,none⟩) (show w.heap.size≤w10.heap.size by omega) (int u64 ((pc+2305843010818082053:Nat):Int))) ?_;intro W9 p6 p7 p8 po pb;go_wp2;exact bodyPost_ret (v:= .tuple #[_,_,_,_,.agg #[z,int u64 ((pc+2305843010818082053:Nat):Int),int u64 ps'],.agg _,.agg _]) (res_4t3c results22 _ rfl rfl rfl p6 p7 p8 rfl rfl rfl) rfl ⟨⟨_,rfl,po⟩,pb⟩
  · have lW:=r26.lt;have gba:∀V:World,w10.heap.size<V.heap.size→w9.heap.size≤(V.alloc (Obj.cells #[int u64 x,int u64 y,.bool c] 34)).heap.size:=fun V h=>by simp;omega
    go_wp2_with (first
      |(refine wpList_store_mid rfl 30 _ _ rfl w10.heap.size 0 #[z,int u64 pc',int u64 ps'] rfl rfl hth sizeEvd hone ?_;generalize hV:World.setCells _ _ _ _=V;obtain rfl:V=W:=hV.symm.trans hW.symm;clear hV hW)
      |(at_builtin;have u1:=ho.alloc (Obj.cells #[int u64 x,int u64 y,.bool c] 34);have u2:=Bk.new V 34 #[int u64 x,int u64 y,.bool c];have u4:=gba V lW;refine app_pt rfl _ _ rfl w9.heap.size z n ce rfl u1 V.heap.size x y c rfl u2 hn u4 ?_;intro g2 cap2 w2 hown2 hgr2;have rr:=(r26.alloc (Obj.cells #[int u64 x,int u64 y,.bool c] 34)).grown hgr2 (own_ne_bk u1 (r26.alloc (Obj.cells #[int u64 x,int u64 y,.bool c] 34)) (by decide));have a0:=rr.cell (k:=0) rfl;have a3:=rr.frz)
      |go_in)
    have s26:Bk (w2.setCell ⟨w10.heap.size,0,none⟩ (.slice (some ⟨g2,0,none⟩) (n+1) cap2)) 30 w10.heap.size #[.slice (some ⟨g2,0,none⟩) (n+1) cap2,int u64 pc',int u64 ps']:=rr.set 0 _;have hb2:Bl w w2:=(hb.alloc hb.size (Obj.cells #[int u64 x,int u64 y,.bool c] 34)).grown hgr2 (by simp;omega) (fun r hr=>by have:=(ho.lt r hr).1;omega);have v6:=((r6.alloc (Obj.cells #[int u64 x,int u64 y,.bool c] 34)).grown hgr2 (own_ne_bk u1 (r6.alloc (Obj.cells #[int u64 x,int u64 y,.bool c] 34)) (by decide))).other (b':=w10.heap.size) (by omega) 0 (.slice (some ⟨g2,0,none⟩) (n+1) cap2);have v7:=((r7.alloc (Obj.cells #[int u64 x,int u64 y,.bool c] 34)).grown hgr2 (own_ne_bk u1 (r7.alloc (Obj.cells #[int u64 x,int u64 y,.bool c] 34)) (by decide))).other (b':=w10.heap.size) (by omega) 0 (.slice (some ⟨g2,0,none⟩) (n+1) cap2);have v8:=((r8.alloc (Obj.cells #[int u64 x,int u64 y,.bool c] 34)).grown hgr2 (own_lo u1 (by omega))).other (b':=w10.heap.size) (by omega) 0 (.slice (some ⟨g2,0,none⟩) (n+1) cap2);have v23:=((r23.alloc (Obj.cells #[int u64 x,int u64 y,.bool c] 34)).grown hgr2 (own_lo u1 l24)).other (b':=w10.heap.size) (by omega) 0 (.slice (some ⟨g2,0,none⟩) (n+1) cap2);have v24:=((r24.alloc (Obj.cells #[int u64 x,int u64 y,.bool c] 34)).grown hgr2 (own_ne_bk u1 (r24.alloc (Obj.cells #[int u64 x,int u64 y,.bool c] 34)) (by decide))).other (b':=w10.heap.size) (by omega) 0 (.slice (some ⟨g2,0,none⟩) (n+1) cap2);have v1:=own_set hown2 (own_ne_bk hown2 rr (by decide)) 0 (.slice (some ⟨g2,0,none⟩) (n+1) cap2);refine dfn_end w _ (.slice (some ⟨g2,0,none⟩) (n+1) cap2) pc' ps' bl (n+1) (ce++ [int u64 x,int u64 y,.bool c]) w9.heap.size w8.heap.size w9.heap.size w10.heap.size v6 v7 v8 v23 v24 s26 (by omega) (by omega) (by omega) (by omega) v1 (hb2.setCell (p:=⟨w10.heap.size,0,none⟩) (show w.heap.size≤w10.heap.size by omega) (.slice (some ⟨g2,0,none⟩) (n+1) cap2)) ?_;intro W9 p6 p7 p8 po pb;go_wp2;exact bodyPost_ret (v:= .tuple #[_,_,_,_,.agg #[.slice (some ⟨g2,0,none⟩) (n+1) cap2,int u64 pc',int u64 ps'],.agg _,.agg _]) (res_4t3c results22 _ rfl rfl rfl p6 p7 p8 rfl rfl rfl) rfl ⟨⟨_,rfl,po⟩,pb⟩
  · have hq: ¬ (9223372036854775807<s.size+1):=by omega
    have hq':s.size+1≤9223372036854775807:=by omega
    go_wp2_with (refine wpList_store_mid rfl 30 _ _ rfl w10.heap.size 0 #[z,int u64 pc',int u64 ps'] rfl rfl hth sizeEvd hone ?_;generalize hV:World.setCells _ _ _ _=V;obtain rfl:V=W:=hV.symm.trans hW.symm;clear hV hW);refine dfn_end w _ (z) pc' ps' bl n' ce' w9.heap.size w8.heap.size w9.heap.size w10.heap.size r6 r7 r8 r23 r24 r26 (by omega) (by omega) (by omega) (by omega) ho hb ?_;intro W9 p6 p7 p8 po pb;go_wp2;exact bodyPost_ret (v:= .tuple #[_,_,_,_,.agg #[z,int u64 pc',int u64 ps'],.agg _,.agg _]) (res_4t3c results22 _ rfl rfl rfl p6 p7 p8 rfl rfl rfl) rfl ⟨⟨_,rfl,po⟩,pb⟩
  · have hq: ¬ (9223372036854775807<t.size+1):=by omega
    have hq':t.size+1≤9223372036854775807:=by omega
    go_wp2_with (refine wpList_store_mid rfl 30 _ _ rfl w10.heap.size 0 #[z,int u64 pc',int u64 ps'] rfl rfl hth sizeEvd hone ?_;generalize hV:World.setCells _ _ _ _=V;obtain rfl:V=W:=hV.symm.trans hW.symm;clear hV hW);refine dfn_end w _ (z) pc' ps' bl n' ce' w9.heap.size w8.heap.size w9.heap.size w10.heap.size r6 r7 r8 r23 r24 r26 (by omega) (by omega) (by omega) (by omega) ho hb ?_;intro W9 p6 p7 p8 po pb;go_wp2;exact bodyPost_ret (v:= .tuple #[_,_,_,_,.agg #[z,int u64 pc',int u64 ps'],.agg _,.agg _]) (res_4t3c results22 _ rfl rfl rfl p6 p7 p8 rfl rfl rfl) rfl ⟨⟨_,rfl,po⟩,pb⟩
  · have h0: ¬ (h:Int)=0:=by omega
    have h1: ¬ (h:Int)=1:=by omega
    have h2: ¬ (h:Int)=2:=by omega
    have h3: ¬ (h:Int)=3:=by omega
    have h4: ¬ (h:Int)=4:=by omega
    have h5: ¬ (h:Int)=5:=by omega
    have h6: ¬ (h:Int)=6:=by omega
    have h7: ¬ (h:Int)=7:=by omega
    by_cases h8:h=8
    · subst h8;have m2: ¬ m=2:=by omega
      go_wp2_with (refine wpList_store_mid rfl 30 _ _ rfl w10.heap.size 0 #[z,int u64 pc',int u64 ps'] rfl rfl hth sizeEvd hone ?_;generalize hV:World.setCells _ _ _ _=V;obtain rfl:V=W:=hV.symm.trans hW.symm;clear hV hW);refine dfn_end w _ (z) pc' ps' bl n' ce' w9.heap.size w8.heap.size w9.heap.size w10.heap.size r6 r7 r8 r23 r24 r26 (by omega) (by omega) (by omega) (by omega) ho hb ?_;intro W9 p6 p7 p8 po pb;go_wp2;exact bodyPost_ret (v:= .tuple #[_,_,_,_,.agg #[z,int u64 pc',int u64 ps'],.agg _,.agg _]) (res_4t3c results22 _ rfl rfl rfl p6 p7 p8 rfl rfl rfl) rfl ⟨⟨_,rfl,po⟩,pb⟩
    · have h8': ¬ (h:Int)=8:=by omega
      go_wp2_with (refine wpList_store_mid rfl 30 _ _ rfl w10.heap.size 0 #[z,int u64 pc',int u64 ps'] rfl rfl hth sizeEvd hone ?_;generalize hV:World.setCells _ _ _ _=V;obtain rfl:V=W:=hV.symm.trans hW.symm;clear hV hW);refine dfn_end w _ (z) pc' ps' bl n' ce' w9.heap.size w8.heap.size w9.heap.size w10.heap.size r6 r7 r8 r23 r24 r26 (by omega) (by omega) (by omega) (by omega) ho hb ?_;intro W9 p6 p7 p8 po pb;go_wp2;exact bodyPost_ret (v:= .tuple #[_,_,_,_,.agg #[z,int u64 pc',int u64 ps'],.agg _,.agg _]) (res_4t3c results22 _ rfl rfl rfl p6 p7 p8 rfl rfl rfl) rfl ⟨⟨_,rfl,po⟩,pb⟩
end
def Cod (W:World)(v:Value):Prop:=(∃p c,v= .slice p 0 c)∨∃b o n c:Nat,0<n∧n≤1048576∧v= .slice (some ⟨b,o,none⟩) n c∧∀i,i<n→∃x:Nat,x<256∧W.cell? ⟨b,o+i,none⟩=some (.int .u8 x)
theorem xor_i64 (a b:Nat)(ha:a<9223372036854775808)(hb:b<9223372036854775808):bits .xor .i64 (a:Int) (b:Int)=((a^^^b:Nat):Int):=by
  have hx:a^^^b<2^63:=Nat.xor_lt_two_pow (by omega) (by omega)
  have h1:(BitVec.ofInt 64 (a:Int)).toNat=a:=by
    rw [BitVec.ofInt_natCast,BitVec.toNat_ofNat];exact Nat.mod_eq_of_lt (by omega)
  have h2:(BitVec.ofInt 64 (b:Int)).toNat=b:=by
    rw [BitVec.ofInt_natCast,BitVec.toNat_ofNat];exact Nat.mod_eq_of_lt (by omega)
  show IntKind.i64.wrap ((BitVec.ofInt 64 (a:Int)^^^BitVec.ofInt 64 (b:Int)).toNat:Int)=_;rw [BitVec.toNat_xor,h1,h2];generalize a^^^b=z at*;simp [IntKind.wrap,IntKind.bits,IntKind.signed];omega
theorem ret_ii {a b c d:Int}(h:a=c)(h2:b=d):Ending.returned (.tuple #[.int .i64 a,.int .i64 b])= .returned (.tuple #[.int .i64 c,.int .i64 d]):=by rw [h,h2]
theorem take_none_any (q:Option Addr)(c:Nat)(p n:Nat)(w:World)(hp:p≤1000000)(hn:1≤n):
    Calls prog 26 #[.slice q 0 c,.int .i64 p,.int .i64 n] w fun e w'=>e= .returned (.tuple #[.int .i64 0,.int .i64 ((p:Int)+1)])∧w=w':=by
  have h1: ¬ ((n:Int)<1):=by omega
  go_enter func26,ntmps26;go_wp2;go_ret2;exact⟨rfl,rfl⟩
theorem take_near (b o l c:Nat)(p n x:Nat)(w:World)(hl:l≤1048576)(hn:1≤n)(hn2:n≤256)(hpl:p<l)(hx:x<256)(hc:w.cell? ⟨b,o+p,none⟩=some (.int .u8 x)):
    Calls prog 26 #[.slice (some ⟨b,o,none⟩) l c,.int .i64 p,.int .i64 n] w fun e w'=>e= .returned (.tuple #[.int .i64 (x%n:Nat),.int .i64 ((p:Int)+1)])∧w=w':=by
  have h1: ¬ ((n:Int)<1):=by omega
  have h2:((l:Int)==0)=false:=by simp;omega
  have h3:(p:Int)<(l:Int):=by omega
  have h4:(n:Int)≤256:=by omega
  have h5: ¬ (n=0):=by omega
  go_enter func26,ntmps26;go_wp2;go_ret2;exact⟨ret_ii (by simp) rfl,rfl⟩
theorem infoU8d:(prog.info? 5).map (fun i=>(i.zero,i.size,i.bytes))=some (some (.int .u8 0),1,1):=by kernel_rfl
def strLen:Value→Nat
  | .string s=>s.size
  |_=>0
theorem ret_si {s t:ByteArray}{a b:Int}(h:s=t)(h2:a=b):Ending.returned (.tuple #[.string s,.int .i64 a])= .returned (.tuple #[.string t,.int .i64 b]):=by rw [h,h2]
theorem ret_ui {a b c d:Int}(h:a=c)(h2:b=d):Ending.returned (.tuple #[int u64 a,.int .i64 b])= .returned (.tuple #[int u64 c,.int .i64 d]):=by rw [h,h2]
theorem take_faru (b o l c:Nat)(p n x y:Nat)(hl0:0<l)(hl:l≤1048576)(hn:1≤n)(hn2:n≤256)(hpl: ¬ p<l)(hp:p≤1000000)(hx:x<256)(hy:y<256):
    ∃z:Nat,z<n∧∀w:World,w.cell? ⟨b,o+p%l,none⟩=some (.int .u8 x)→w.cell? ⟨b,o+(p*7+3)%l,none⟩=some (.int .u8 y)→
    Calls prog 26 #[.slice (some ⟨b,o,none⟩) l c,.int .i64 p,.int .i64 n] w fun e w'=>e= .returned (.tuple #[.int .i64 z,.int .i64 ((p:Int)+1)])∧w=w':=by
  obtain⟨i,hi⟩:∃i,i=p%l:=⟨_,rfl⟩;obtain⟨j,hj⟩:∃j,j=(p*7+3)%l:=⟨_,rfl⟩;obtain⟨k,hk⟩:∃k,k=p/l:=⟨_,rfl⟩;rw [←hi,←hj];have h1: ¬ ((n:Int)<1):=by omega
  have h2:((l:Int)==0)=false:=by simp;omega
  have h3: ¬ ((p:Int)<(l:Int)):=by omega
  have h5: ¬ (n=0):=by omega
  have h6: ¬ (l=0):=by omega
  have hi1:i<l:=by rw [hi];exact Nat.mod_lt _ hl0
  have hj1:j<l:=by rw [hj];exact Nat.mod_lt _ hl0
  have hk1:k≤p:=by rw [hk];exact Nat.div_le_self _ _
  have ei:(p:Int)%(l:Int)=(i:Int):=by rw [hi];simp
  have ej:((p:Int)*7+3)%(l:Int)=(j:Int):=by rw [hj];simp
  have ek:(p:Int)/(l:Int)=(k:Int):=by rw [hk];simp
  have hi2:(i:Int)<(l:Int):=by omega
  have hj2:(j:Int)<(l:Int):=by omega
  clear hi hj hk;obtain⟨t,ht⟩:∃t:Nat,t=x*131+y*1117+p*29+k*53:=⟨_,rfl⟩;have ht1:t≤1000000000:=by omega
  have e1:(x:Int)*131+(y:Int)*1117+(p:Int)*29+(k:Int)*53=(t:Int):=by rw [ht];simp
  have e2:(t:Int)/64=((t/64:Nat):Int):=by omega
  have e3:=xor_i64 t (t/64) (by omega) (by omega);rw [←e2] at e3;have ez:((t^^^(t/64):Nat):Int).tmod (n:Int)=(((t^^^(t/64))%n:Nat):Int):=by rw [Int.tmod_eq_emod_of_nonneg (Int.natCast_nonneg _)];simp
  have hz:(t^^^(t/64))%n<n:=Nat.mod_lt _ (by omega);generalize (t^^^(t/64))%n=z at*;generalize t^^^(t/64)=y' at*;clear ht e2;refine⟨z,hz,fun w hc hd=> ?_⟩;go_enter func26,ntmps26;go_wp2;go_ret2;exact⟨rfl,rfl⟩
theorem take_uni (v:Value)(p n:Nat)(w0:World)(hv:Cod w0 v)(hn:1≤n)(hn2:n≤256)(hp:p≤1000000):
    ∃z:Nat,z<n∧∀w,Bl w0 w→Calls prog 26 #[v,.int .i64 p,.int .i64 n] w fun e w'=>e= .returned (.tuple #[.int .i64 z,.int .i64 ((p:Int)+1)])∧w=w':=by
  rcases hv with ⟨q,c,rfl⟩|⟨b,o,l,c,h0,h1,rfl,hc⟩
  · exact⟨0,by omega,fun w _=>take_none_any q c p n w hp hn⟩
  · have up:∀(w:World),Bl w0 w→∀(i x:Nat),w0.cell? ⟨b,o+i,none⟩=some (.int .u8 x)→w.cell? ⟨b,o+i,none⟩=some (.int .u8 x):=fun w hb i x h=>(hb.cell (p:=⟨b,o+i,none⟩) (World.block_lt_of_cell? w0 _ h)).trans h
    by_cases hpl:p<l
    · obtain⟨x,hx,hcell⟩:=hc p hpl;exact⟨x%n,Nat.mod_lt _ (by omega),fun w hb=>take_near b o l c p n x w h1 hn hn2 hpl hx (up w hb p x hcell)⟩
    · obtain⟨x,hx,hcell⟩:=hc (p%l) (Nat.mod_lt _ h0);obtain⟨y,hy,hcell2⟩:=hc ((p*7+3)%l) (Nat.mod_lt _ h0);obtain⟨z,hz,H⟩:=take_faru b o l c p n x y h0 h1 hn hn2 hpl hp hx hy;exact⟨z,hz,fun w hb=>H w (up w hb _ x hcell) (up w hb _ y hcell2)⟩
theorem byt_uni (v:Value)(p n:Nat)(w0:World)(hv:Cod w0 v)(hn:n≤1000)(hp:p≤100000):
    ∃s:ByteArray,s.size=n∧∀w,Bl w0 w→Cr 103 #[v,.int .i64 p,.int .i64 n] w (.tuple #[.string s,.int .i64 ((p:Int)+(n:Int))]):=by
  have T0:=fun j (hj:j<n)=>take_uni v (p+j) 256 w0 hv (by omega) (by omega) (by omega)
  obtain⟨f,hf⟩:∃f:Nat→Nat,∀j,j<n→f j<256∧∀w,Bl w0 w→Calls prog 26 #[v,.int .i64 (p+j:Nat),.int .i64 (256:Nat)] w fun e w'=>e= .returned (.tuple #[.int .i64 (f j:Nat),.int .i64 (((p+j:Nat):Int)+1)])∧w=w':=
    ⟨fun j=>if h:j<n then Classical.choose (T0 j h) else 0,fun j hj=>by simp only [dif_pos hj];exact Classical.choose_spec (T0 j hj)⟩
  clear T0;have hL:∀j,(List.range (j+1)).map (fun j=>(f j:Int))=(List.range j).map (fun j=>(f j:Int))++ [(f j:Int)]:=fun j=>by rw [List.range_succ,List.map_append];rfl
  have hLl:∀j,((List.range j).map (fun j=>(f j:Int))).length=j:=fun j=>by simp
  have hL0:(List.range 0).map (fun j=>(f j:Int))= []:=rfl;generalize hLF:(fun j=>(List.range j).map (fun j=>(f j:Int)))=L at*;have eL:∀j,(List.range j).map (fun j=>(f j:Int))=L j:=fun j=>by rw [←hLF]
  simp only [eL] at hL hLl hL0;clear eL hLF;refine⟨strOfNums (L n),by rw [strOfNums_size];exact hLl n,fun w hw=> ?_⟩;obtain⟨i0,hi,hz0,hz1,hz2⟩:=info_parts infoU8d;go_enter func103,ntmps103;go_wp2
  go_loopw [1,8,9] (fun q u i wr=>∃(j g cap:Nat),j≤n∧i= .int .i64 (j:Int)∧q= .int .i64 ((p:Int)+(j:Int))∧u= .slice (some ⟨g,0,none⟩) j cap∧Row wr w.heap.size g j cap ((L j).map (Value.int .u8))∧Bl w wr) (fun _ _ i _=>n-(intOf i).toNat)
  case atStart=>exact ⟨0,w.heap.size,0,by omega,rfl,by simp,rfl,by rw [hL0];exact Row.of_block (n:=0) (cs:=#[]) (heap_alloc_new w _) (Nat.le_refl _) (by simp) (by simp),(Below.refl _ _).alloc (Nat.le_refl _) _⟩
  case round=>
    obtain⟨j,g1,cap1,hj,rfl,rfl,rfl,hrow,hbl⟩:=hrel;have hsz1:w.heap.size≤wr.heap.size:=hbl.size;by_cases hlt:j<n
    · obtain⟨hz,T⟩:=hf j hlt;have e1:((p+j:Nat):Int)=(p:Int)+(j:Int):=by omega
      rw [e1] at T;have hlti:(j:Int)<(n:Int):=by omega
      clear e1;go_wp2_with fail;refine(T _ (hw.tr hbl)).mono ?_;rintro e w2 ⟨rfl,rfl⟩;clear T;have hLj:=hL j;have hll:=hLl j;generalize f j=z at*;have ez:IntKind.u8.wrap (z:Int)=(z:Int):=by rw [IntKind.wrap_u8];omega
      go_wp2_with (first
        |(at_builtin;refine wpList_append_row rfl _ _ 22 rfl w.heap.size 5 i0 (.int .u8 0) 1 underlying22 hi hz0 hz1 hz2 rfl g1 j cap1 ((L j).map (Value.int .u8)) rfl (hrow.alloc _) ⟨wr.heap.size,0,none⟩ 1 1 [.int .u8 z] rfl rfl (World.news_of_block (cs:=#[.int .u8 z]) (heap_alloc_new wr _)) (by simp [Value.oneCell']) (by unfold maxLen;omega) (by omega) (by simp;omega) _ rfl ?_;intro g3 cap3 w3 hrow3 hgr3 _ _)
        |go_in)
      have R1:Row w3 w.heap.size g3 (j+1) cap3 ((L (j+1)).map (Value.int .u8)):=by rw [hLj,List.map_append];exact hrow3
      have R2:Bl w w3:=(hbl.alloc hsz1 _).grown hgr3 (by simp;omega) (fun r hr=>by simp at hr;have:=hrow.lo;omega);go_roundw
      case rel=>exact ⟨j+1,g3,cap3,by omega,by go_num,(by first|(congr 1;omega)|congr 1),rfl,R1,R2⟩
      case measure=>simp [intOf];omega
    · obtain rfl:j=n:=by omega
      have hll:=hLl j;have hcv:=run_convert_bytes_arg (P:=prog) wr 22 5 underlying22 underlying5 g1 0 j cap1 (L j) hll (fun i h=>by rw [Nat.zero_add];exact hrow.cell i h) 9 underlying9;go_wp2;go_ret2;exact⟨rfl,hbl⟩
def dbl (n:Nat)(s:ByteArray):Nat→ByteArray
  |0=>s
  |k+1=>if s.size*2≤n then dbl n (s++s) k else s
theorem dbl_end {n:Nat}{s:ByteArray}(h: ¬ s.size*2≤n):∀k,dbl n s k=s
  |0=>rfl
  |k+1=>if_neg h
theorem dbl_size (n:Nat):∀(k:Nat) (s:ByteArray),2≤s.size→s.size≤n+1→2≤(dbl n s k).size∧(dbl n s k).size≤n+1
  |0,s,h,h'=>⟨h,h'⟩
  | k +1,s,h,h'=>by
    unfold dbl;by_cases hs:s.size*2≤n
    · rw [if_pos hs];have hz:(s++s).size=s.size+s.size:=by simp
      exact dbl_size n k (s++s) (by omega) (by omega)
    · rw [if_neg hs];exact⟨h,h'⟩
theorem long_uni (b:ByteArray)(hb:b.size=2):∀(n:Nat),n≤65536→∃s:ByteArray,s.size≤n+1∧∀(w:World),
    Calls prog 102 #[.int .i64 n,.string b] w fun e w'=>e= .returned (.string s)∧w=w':=by
  intro n
  induction n using Nat.strongRecOn with
  |_ n ih=>
  intro hn;by_cases h0:n=0
  · subst h0;refine⟨ByteArray.empty,by decide,fun w=> ?_⟩;go_enter func102,ntmps102;go_wp2
    go_loop [5] (fun v=>v= .string ByteArray.empty) (fun _=>0)
    case atStart=>rfl
    case round=>
      subst hrel;go_wp2;go_ret;exact⟨rfl,rfl⟩
  · have hpos:(0:Int)<(n:Int):=by omega
    obtain⟨D,hD⟩:∃D,dbl n b (n+2)=D:=⟨_,rfl⟩;obtain⟨hD1,hD2⟩:=dbl_size n (n+2) b (by omega) (by omega);rw [hD] at hD1 hD2
    obtain⟨r,hr,I⟩:∃r:ByteArray,r.size≤n+1∧((D.size<n∧r.size≤n-D.size+1∧∀w,Calls prog 102 #[.int .i64 ((n:Int)-(D.size:Int)),.string b] w fun e w'=>e= .returned (.string r)∧w=w')∨(¬ D.size<n∧r=ByteArray.empty)):=by
      by_cases hl:D.size<n
      · obtain⟨r,hr,H⟩:=ih (n-D.size) (by omega) (by omega);have e1:((n-D.size:Nat):Int)=(n:Int)-(D.size:Int):=by omega
        rw [e1] at H;exact⟨r,by omega,.inl ⟨hl,hr,H⟩⟩
      · exact⟨ByteArray.empty,by simp,.inr ⟨hl,rfl⟩⟩
    refine⟨D++r,?_,fun w=> ?_⟩
    · rcases I with ⟨hl,h2,-⟩|⟨hl,rfl⟩
      · simp;omega
      · simp;omega
    clear ih;go_enter func102,ntmps102;go_wp2
    go_loop [5] (fun v=>∃(s:ByteArray) (k:Nat),v= .string s∧2≤s.size∧s.size≤n+1∧n+2-s.size≤k∧dbl n s k=D) (fun v=>n+2-strLen v)
    case atStart=>exact ⟨b,n+2,rfl,by omega,by omega,by omega,hD⟩
    case round=>
      obtain⟨s,k,rfl,h2,h3,hk,hs⟩:=hrel;by_cases hm:s.size*2≤n
      · have hmi:(s.size:Int)*2≤(n:Int):=by omega
        obtain⟨k',rfl⟩:∃k',k=k'+1:=⟨k-1,by omega⟩;have hsz:(s++s).size=s.size+s.size:=by simp
        unfold dbl at hs;rw [if_pos hm] at hs;clear I hD;go_wp2;go_round
        case rel=>exact ⟨s++s,k',rfl,by omega,by omega,by omega,hs⟩
        case measure=>simp [strLen];omega
      · have hmi: ¬ ((s.size:Int)*2≤(n:Int)):=by omega
        rw [dbl_end hm] at hs;subst hs;rcases I with ⟨hl,-,I⟩|⟨hl,rfl⟩
        · have hli:(s.size:Int)<(n:Int):=by omega
          clear hD;go_wp2_with fail;refine(I _).mono ?_;rintro e w' ⟨rfl,rfl⟩;clear I;go_wp2;go_ret;exact⟨rfl,rfl⟩
        · have hli: ¬ ((s.size:Int)<(n:Int)):=by omega
          clear hD;go_wp2;go_ret;exact⟨rfl,rfl⟩
theorem some_uni (v:Value)(p:Nat)(w0:World)(hv:Cod w0 v)(hp:p≤50000):
    ∃(s:ByteArray) (q:Nat),s.size≤65537∧q≤p+42∧∀w,Bl w0 w→Cr 59 #[v,.int .i64 p] w (.tuple #[.string s,.int .i64 q]):=by
  obtain⟨z,hz,T1⟩:=take_uni v p 80 w0 hv (by omega) (by omega) (by omega);obtain⟨y,hy,T2⟩:=take_uni v (p+1) 40 w0 hv (by omega) (by omega) (by omega);have e1:((p+1:Nat):Int)=(p:Int)+1:=by omega
  rw [e1] at T2;clear e1;by_cases h79:z=79
  · subst h79;obtain⟨s,hs,L⟩:=long_uni ⟨#[105,110]⟩ rfl (65535+y%2) (by omega);have e1:((65535+y%2:Nat):Int)=65535+(y:Int)%2:=by omega
    rw [e1] at L;clear e1;refine⟨s,p+2,by omega,by omega,fun w hw=> ?_⟩;go_enter func59,ntmps59;go_wp2_with fail;refine(T1 _ hw).mono ?_;rintro e w1 ⟨rfl,rfl⟩;go_wp2_with fail;refine(T2 _ hw).mono ?_;rintro e w1 ⟨rfl,rfl⟩;clear T1 T2;go_wp2_with fail;refine(L _).mono ?_;rintro e w1 ⟨rfl,rfl⟩;go_wp2;go_ret2;exact⟨ret_si rfl (by omega),Below.refl _ _⟩
  · have h79i:((z:Int)==79)=false:=by simp;omega
    by_cases h8:z<8
    · have h8i:(z:Int)<8:=by omega
      refine⟨ByteArray.empty,p+2,by decide,by omega,fun w hw=> ?_⟩;go_enter func59,ntmps59;go_wp2_with fail;refine(T1 _ hw).mono ?_;rintro e w1 ⟨rfl,rfl⟩;go_wp2_with fail;refine(T2 _ hw).mono ?_;rintro e w1 ⟨rfl,rfl⟩;clear T1 T2;go_wp2;go_ret2;exact⟨ret_si rfl (by omega),Below.refl _ _⟩
    · have h8i: ¬ ((z:Int)<8):=by omega
      obtain⟨s,hs,L⟩:=byt_uni v (p+2) y w0 hv (by omega) (by omega);have e1:((p+2:Nat):Int)=(p:Int)+1+1:=by omega
      rw [e1] at L;clear e1;refine⟨s,p+2+y,by omega,by omega,fun w hw=> ?_⟩;go_enter func59,ntmps59;go_wp2_with fail;refine(T1 _ hw).mono ?_;rintro e w1 ⟨rfl,rfl⟩;go_wp2_with fail;refine(T2 _ hw).mono ?_;rintro e w1 ⟨rfl,rfl⟩;clear T1 T2;go_wp2_with fail;refine(L _ hw).mono ?_;rintro e w1 ⟨rfl,hb⟩;go_wp2;go_ret2;exact⟨ret_si rfl (by omega),hb⟩
end Go.Proofs.YtmjniccfjffclaaGreatDoor
