import Derived.Test.YtnfbfpegagcanaaMrg17
set_option linter.unusedVariables false
set_option maxRecDepth 100000
set_option maxHeartbeats 16000000
namespace Go.Proofs.Ytnfbfpegagcanaa
open Go.Proofs.Try Go.RowKit
open Go.Value (int)
open Go.IntKind (u64)
def szM (m:Msg):Nat:=m.user.size+m.nonce.size+m.box.size+m.mac.size
theorem szM_any (m:Msg)(w:World)(u1:m.user.size≤maxLen)(u2:m.nonce.size≤maxLen)(u3:m.box.size≤maxLen)(u4:m.mac.size≤maxLen):
    Cr 19 #[.agg (msgL m).toArray,.int .i64 1048576] w (.int .i64 (if szM m≤1048576 then 1048576-(szM m:Int) else-1)):=by
  have h1:=Bk.new w 36 #[.int .i64 m.kind,.string m.user,int u64 (m.el.1:Int),int u64 (m.el.2.1:Int),.bool m.el.2.2,int u64 (m.ot.1:Int),int u64 (m.ot.2.1:Int),.bool m.ot.2.2,.string m.nonce,.string m.box,.string m.mac,.int .i64 m.code];have hB:=balc w (Obj.cells #[.int .i64 m.kind,.string m.user,int u64 (m.el.1:Int),int u64 (m.el.2.1:Int),.bool m.el.2.2,int u64 (m.ot.1:Int),int u64 (m.ot.2.1:Int),.bool m.ot.2.2,.string m.nonce,.string m.box,.string m.mac,.int .i64 m.code] 36);obtain⟨W1,hW1⟩:∃W,w.alloc (Obj.cells #[.int .i64 m.kind,.string m.user,int u64 (m.el.1:Int),int u64 (m.el.2.1:Int),.bool m.el.2.2,int u64 (m.ot.1:Int),int u64 (m.ot.2.1:Int),.bool m.ot.2.2,.string m.nonce,.string m.box,.string m.mac,.int .i64 m.code] 36)=W:=⟨_,rfl⟩;rw [hW1] at h1 hB;have c0:W1.cell? ⟨w.heap.size,0,none⟩=some (.int .i64 m.kind):=h1.cell (k:=0) rfl;have c1:W1.cell? ⟨w.heap.size,1,none⟩=some (.string m.user):=h1.cell (k:=1) rfl;have c2:W1.cell? ⟨w.heap.size,2,none⟩=some (int u64 (m.el.1:Int)):=h1.cell (k:=2) rfl;have c3:W1.cell? ⟨w.heap.size,3,none⟩=some (int u64 (m.el.2.1:Int)):=h1.cell (k:=3) rfl;have c4:W1.cell? ⟨w.heap.size,4,none⟩=some (.bool m.el.2.2):=h1.cell (k:=4) rfl;have c5:W1.cell? ⟨w.heap.size,5,none⟩=some (int u64 (m.ot.1:Int)):=h1.cell (k:=5) rfl;have c6:W1.cell? ⟨w.heap.size,6,none⟩=some (int u64 (m.ot.2.1:Int)):=h1.cell (k:=6) rfl;have c7:W1.cell? ⟨w.heap.size,7,none⟩=some (.bool m.ot.2.2):=h1.cell (k:=7) rfl;have c8:W1.cell? ⟨w.heap.size,8,none⟩=some (.string m.nonce):=h1.cell (k:=8) rfl;have c9:W1.cell? ⟨w.heap.size,9,none⟩=some (.string m.box):=h1.cell (k:=9) rfl;have c10:W1.cell? ⟨w.heap.size,10,none⟩=some (.string m.mac):=h1.cell (k:=10) rfl;have c11:W1.cell? ⟨w.heap.size,11,none⟩=some (.int .i64 m.code):=h1.cell (k:=11) rfl;simp only [maxLen] at u1 u2 u3 u4;simp only [msgL];unfold szM;by_cases g1:m.user.size≤1048576
  · have g1': ¬ (1048576-(m.user.size:Int)<0):=by omega
    have r1:IntKind.i64.wrap (1048576-(m.user.size:Int))=1048576-(m.user.size:Int):=by rw [IntKind.wrap_i64];omega
    by_cases g2:m.user.size+m.nonce.size≤1048576
    · have g2': ¬ (1048576-(m.user.size:Int)-(m.nonce.size:Int)<0):=by omega
      have r2:IntKind.i64.wrap (1048576-(m.user.size:Int)-(m.nonce.size:Int))=1048576-(m.user.size:Int)-(m.nonce.size:Int):=by rw [IntKind.wrap_i64];omega
      by_cases g3:m.user.size+m.nonce.size+m.box.size≤1048576
      · have g3': ¬ (1048576-(m.user.size:Int)-(m.nonce.size:Int)-(m.box.size:Int)<0):=by omega
        have r3:IntKind.i64.wrap (1048576-(m.user.size:Int)-(m.nonce.size:Int)-(m.box.size:Int))=1048576-(m.user.size:Int)-(m.nonce.size:Int)-(m.box.size:Int):=by rw [IntKind.wrap_i64];omega
        have r4:IntKind.i64.wrap (1048576-(m.user.size:Int)-(m.nonce.size:Int)-(m.box.size:Int)-(m.mac.size:Int))=1048576-(m.user.size:Int)-(m.nonce.size:Int)-(m.box.size:Int)-(m.mac.size:Int):=by rw [IntKind.wrap_i64];omega
        by_cases g4:m.user.size+m.nonce.size+m.box.size+m.mac.size≤1048576
        · have g4': ¬ (1048576-(m.user.size:Int)-(m.nonce.size:Int)-(m.box.size:Int)-(m.mac.size:Int)<0):=by omega
          rw [if_pos g4];go_enter func19,ntmps19;go_wp2;go_ret;have hee:(1048576:Int)-(m.user.size:Int)-(m.nonce.size:Int)-(m.box.size:Int)-(m.mac.size:Int)=1048576-((m.user.size+m.nonce.size+m.box.size+m.mac.size:Nat):Int):=by omega
          rw [Int.natCast_add,Int.natCast_add,Int.natCast_add] at hee;exact⟨by rw [←hee];rfl,hB⟩
        · have g4':1048576-(m.user.size:Int)-(m.nonce.size:Int)-(m.box.size:Int)-(m.mac.size:Int)<0:=by omega
          rw [if_neg g4];go_enter func19,ntmps19;go_wp2;go_ret;exact⟨rfl,hB⟩
      · have g3':1048576-(m.user.size:Int)-(m.nonce.size:Int)-(m.box.size:Int)<0:=by omega
        have r3:IntKind.i64.wrap (1048576-(m.user.size:Int)-(m.nonce.size:Int)-(m.box.size:Int))=1048576-(m.user.size:Int)-(m.nonce.size:Int)-(m.box.size:Int):=by rw [IntKind.wrap_i64];omega
        rw [if_neg (by omega)];go_enter func19,ntmps19;go_wp2;go_ret;exact⟨rfl,hB⟩
    · have g2':1048576-(m.user.size:Int)-(m.nonce.size:Int)<0:=by omega
      have r2:IntKind.i64.wrap (1048576-(m.user.size:Int)-(m.nonce.size:Int))=1048576-(m.user.size:Int)-(m.nonce.size:Int):=by rw [IntKind.wrap_i64];omega
      rw [if_neg (by omega)];go_enter func19,ntmps19;go_wp2;go_ret;exact⟨rfl,hB⟩
  · have g1':1048576-(m.user.size:Int)<0:=by omega
    have r1:IntKind.i64.wrap (1048576-(m.user.size:Int))=1048576-(m.user.size:Int):=by rw [IntKind.wrap_i64];omega
    rw [if_neg (by omega)];go_enter func19,ntmps19;go_wp2;go_ret;exact⟨rfl,hB⟩
theorem tmM (m:Msg)(w:World):
    Cr 21 #[.agg (msgL m).toArray] w (.agg (msgL m).toArray):=by
  have h1:=Bk.new w 36 #[.int .i64 m.kind,.string m.user,int u64 (m.el.1:Int),int u64 (m.el.2.1:Int),.bool m.el.2.2,int u64 (m.ot.1:Int),int u64 (m.ot.2.1:Int),.bool m.ot.2.2,.string m.nonce,.string m.box,.string m.mac,.int .i64 m.code];have hB:=balc w (Obj.cells #[.int .i64 m.kind,.string m.user,int u64 (m.el.1:Int),int u64 (m.el.2.1:Int),.bool m.el.2.2,int u64 (m.ot.1:Int),int u64 (m.ot.2.1:Int),.bool m.ot.2.2,.string m.nonce,.string m.box,.string m.mac,.int .i64 m.code] 36);obtain⟨W1,hW1⟩:∃W,w.alloc (Obj.cells #[.int .i64 m.kind,.string m.user,int u64 (m.el.1:Int),int u64 (m.el.2.1:Int),.bool m.el.2.2,int u64 (m.ot.1:Int),int u64 (m.ot.2.1:Int),.bool m.ot.2.2,.string m.nonce,.string m.box,.string m.mac,.int .i64 m.code] 36)=W:=⟨_,rfl⟩;rw [hW1] at h1 hB;have hl1:w.heap.size<W1.heap.size:=h1.lt;have h2:=Bk.new W1 40 #[.int .i64 0,.string ⟨#[]⟩,int u64 0,int u64 0,.bool false,int u64 0,int u64 0,.bool false,.string ⟨#[]⟩,.string ⟨#[]⟩,.string ⟨#[]⟩,.int .i64 0];replace h1:=h1.alloc (Obj.cells #[.int .i64 0,.string ⟨#[]⟩,int u64 0,int u64 0,.bool false,int u64 0,int u64 0,.bool false,.string ⟨#[]⟩,.string ⟨#[]⟩,.string ⟨#[]⟩,.int .i64 0] 40);replace hB:=hB.alloc hB.size (Obj.cells #[.int .i64 0,.string ⟨#[]⟩,int u64 0,int u64 0,.bool false,int u64 0,int u64 0,.bool false,.string ⟨#[]⟩,.string ⟨#[]⟩,.string ⟨#[]⟩,.int .i64 0] 40);obtain⟨W2,hW2⟩:∃W,W1.alloc (Obj.cells #[.int .i64 0,.string ⟨#[]⟩,int u64 0,int u64 0,.bool false,int u64 0,int u64 0,.bool false,.string ⟨#[]⟩,.string ⟨#[]⟩,.string ⟨#[]⟩,.int .i64 0] 40)=W:=⟨_,rfl⟩;rw [hW2] at h1 h2 hB;have hl2:W1.heap.size<W2.heap.size:=h2.lt;have h3:=Bk.new W2 40 #[.int .i64 0,.string ⟨#[]⟩,int u64 0,int u64 0,.bool false,int u64 0,int u64 0,.bool false,.string ⟨#[]⟩,.string ⟨#[]⟩,.string ⟨#[]⟩,.int .i64 0];replace h1:=h1.alloc (Obj.cells #[.int .i64 0,.string ⟨#[]⟩,int u64 0,int u64 0,.bool false,int u64 0,int u64 0,.bool false,.string ⟨#[]⟩,.string ⟨#[]⟩,.string ⟨#[]⟩,.int .i64 0] 40);replace h2:=h2.alloc (Obj.cells #[.int .i64 0,.string ⟨#[]⟩,int u64 0,int u64 0,.bool false,int u64 0,int u64 0,.bool false,.string ⟨#[]⟩,.string ⟨#[]⟩,.string ⟨#[]⟩,.int .i64 0] 40);replace hB:=hB.alloc hB.size (Obj.cells #[.int .i64 0,.string ⟨#[]⟩,int u64 0,int u64 0,.bool false,int u64 0,int u64 0,.bool false,.string ⟨#[]⟩,.string ⟨#[]⟩,.string ⟨#[]⟩,.int .i64 0] 40);obtain⟨W3,hW3⟩:∃W,W2.alloc (Obj.cells #[.int .i64 0,.string ⟨#[]⟩,int u64 0,int u64 0,.bool false,int u64 0,int u64 0,.bool false,.string ⟨#[]⟩,.string ⟨#[]⟩,.string ⟨#[]⟩,.int .i64 0] 40)=W:=⟨_,rfl⟩;rw [hW3] at h1 h2 h3 hB;have hle:w.heap.size≤W2.heap.size:=by omega
  have n13:some w.heap.size≠some W2.heap.size:=fun h=>by have:=Option.some.inj h;omega
  have n23:some W1.heap.size≠some W2.heap.size:=fun h=>by have:=Option.some.inj h;omega
  have hn13:w.heap.size≠W2.heap.size:=by omega
  have hn23:W1.heap.size≠W2.heap.size:=by omega
  have hn12:w.heap.size≠W1.heap.size:=by omega
  have hl12:w.heap.size≤W1.heap.size:=by omega
  have c0:W3.cell? ⟨w.heap.size,0,none⟩=some (.int .i64 m.kind):=h1.cell (k:=0) rfl;have c1:W3.cell? ⟨w.heap.size,1,none⟩=some (.string m.user):=h1.cell (k:=1) rfl;have c2:W3.cell? ⟨w.heap.size,2,none⟩=some (int u64 (m.el.1:Int)):=h1.cell (k:=2) rfl;have c3:W3.cell? ⟨w.heap.size,3,none⟩=some (int u64 (m.el.2.1:Int)):=h1.cell (k:=3) rfl;have c4:W3.cell? ⟨w.heap.size,4,none⟩=some (.bool m.el.2.2):=h1.cell (k:=4) rfl;have c5:W3.cell? ⟨w.heap.size,5,none⟩=some (int u64 (m.ot.1:Int)):=h1.cell (k:=5) rfl;have c6:W3.cell? ⟨w.heap.size,6,none⟩=some (int u64 (m.ot.2.1:Int)):=h1.cell (k:=6) rfl;have c7:W3.cell? ⟨w.heap.size,7,none⟩=some (.bool m.ot.2.2):=h1.cell (k:=7) rfl;have c8:W3.cell? ⟨w.heap.size,8,none⟩=some (.string m.nonce):=h1.cell (k:=8) rfl;have c9:W3.cell? ⟨w.heap.size,9,none⟩=some (.string m.box):=h1.cell (k:=9) rfl;have c10:W3.cell? ⟨w.heap.size,10,none⟩=some (.string m.mac):=h1.cell (k:=10) rfl;have c11:W3.cell? ⟨w.heap.size,11,none⟩=some (.int .i64 m.code):=h1.cell (k:=11) rfl;have z0:W3.cell? ⟨W2.heap.size,0,none⟩=some (.int .i64 0):=h3.cell (k:=0) rfl;have z1:W3.cell? ⟨W2.heap.size,1,none⟩=some (.string ⟨#[]⟩):=h3.cell (k:=1) rfl;have f0:=h3.frz 0;have f1:=h3.frz 1;have hg:=grownT (grownS W3 W2.heap.size 0 (.int .i64 m.kind)) (grownS _ W2.heap.size 1 (.string m.user));have h3':=(h3.set 0 (.int .i64 m.kind)).set 1 (.string m.user);have h1':=h1.keptBy hg n13;have h2':=h2.keptBy hg n23;have hB':=(hB.setCell (p:=⟨W2.heap.size,0,none⟩) hle (.int .i64 m.kind)).setCell (p:=⟨W2.heap.size,1,none⟩) hle (.string m.user);simp only [List.setIfInBounds_toArray,List.set_cons_zero,List.set_cons_succ] at h3';simp only [msgL];clear hg h1 h2 h3 hl1 hl2;go_enter func21,ntmps21;go_wp2_with fail;refine(toP _ _ _ _).mono ?_;rintro e w1 ⟨rfl,b1⟩;have h1:=h1'.keep b1;have h2:=h2'.keep b1;have h3:=h3'.keep b1;replace hB:=hB'.tr b1;clear b1 h1' h2' h3' hB' c0 c1 c2 c3 c4 c5 c6 c7 c8 c9 c10 c11 z0 z1 f0 f1 hW1 hW2 hW3;obtain⟨b3,hb3⟩:∃r,r=W2.heap.size:=⟨_,rfl⟩;obtain⟨b2,hb2⟩:∃r,r=W1.heap.size:=⟨_,rfl⟩;obtain⟨b1,hb1⟩:∃r,r=w.heap.size:=⟨_,rfl⟩;have n13':b1≠b3:=by rw [hb1,hb3];exact hn13
  have n23':b2≠b3:=by rw [hb2,hb3];exact hn23
  have n12':b1≠b2:=by rw [hb1,hb2];exact hn12
  have l2:w.heap.size≤b2:=by rw [hb2];exact hl12
  have l3:w.heap.size≤b3:=by rw [hb3];exact hle
  rw [←hb3] at h3;rw [←hb2] at h2;rw [←hb1] at h1;simp only [←hb3,←hb2,←hb1];clear hb3 hb2 hb1 n13 n23 hn13 hn23 hn12 hl12 hle;have hg:=grownT (grownT (grownS w1 b3 2 (int u64 (m.el.1:Int))) (grownS _ b3 3 (int u64 (m.el.2.1:Int)))) (grownS _ b3 4 (.bool m.el.2.2));have h3':=((h3.set 2 (int u64 (m.el.1:Int))).set 3 (int u64 (m.el.2.1:Int))).set 4 (.bool m.el.2.2);have h1':=h1.keptBy hg (fun h=>n13' (Option.some.inj h));have h2':=h2.keptBy hg (fun h=>n23' (Option.some.inj h));have hB':=((hB.setCell (p:=⟨b3,2,none⟩) l3 (int u64 (m.el.1:Int))).setCell (p:=⟨b3,3,none⟩) l3 (int u64 (m.el.2.1:Int))).setCell (p:=⟨b3,4,none⟩) l3 (.bool m.el.2.2);simp only [List.setIfInBounds_toArray,List.set_cons_zero,List.set_cons_succ] at h3';have c0:w1.cell? ⟨b1,0,none⟩=some (.int .i64 m.kind):=h1.cell (k:=0) rfl;have c1:w1.cell? ⟨b1,1,none⟩=some (.string m.user):=h1.cell (k:=1) rfl;have c2:w1.cell? ⟨b1,2,none⟩=some (int u64 (m.el.1:Int)):=h1.cell (k:=2) rfl;have c3:w1.cell? ⟨b1,3,none⟩=some (int u64 (m.el.2.1:Int)):=h1.cell (k:=3) rfl;have c4:w1.cell? ⟨b1,4,none⟩=some (.bool m.el.2.2):=h1.cell (k:=4) rfl;have c5:w1.cell? ⟨b1,5,none⟩=some (int u64 (m.ot.1:Int)):=h1.cell (k:=5) rfl;have c6:w1.cell? ⟨b1,6,none⟩=some (int u64 (m.ot.2.1:Int)):=h1.cell (k:=6) rfl;have c7:w1.cell? ⟨b1,7,none⟩=some (.bool m.ot.2.2):=h1.cell (k:=7) rfl;have c8:w1.cell? ⟨b1,8,none⟩=some (.string m.nonce):=h1.cell (k:=8) rfl;have c9:w1.cell? ⟨b1,9,none⟩=some (.string m.box):=h1.cell (k:=9) rfl;have c10:w1.cell? ⟨b1,10,none⟩=some (.string m.mac):=h1.cell (k:=10) rfl;have c11:w1.cell? ⟨b1,11,none⟩=some (.int .i64 m.code):=h1.cell (k:=11) rfl;have z2:w1.cell? ⟨b3,2,none⟩=some (int u64 0):=h3.cell (k:=2) rfl;have z3:w1.cell? ⟨b3,3,none⟩=some (int u64 0):=h3.cell (k:=3) rfl;have z4:w1.cell? ⟨b3,4,none⟩=some (.bool false):=h3.cell (k:=4) rfl;have f2:=h3.frz 2;have f3:=h3.frz 3;have f4:=h3.frz 4;clear hg h1 h2 h3;go_wp2_with fail;refine(toP _ _ _ _).mono ?_;rintro e w2 ⟨rfl,b4⟩;have h1:=h1'.keep b4;have h2:=h2'.keep b4;have h3:=h3'.keep b4;replace hB:=hB'.tr b4;clear b4 h1' h2' h3' hB' c0 c1 c2 c3 c4 c5 c6 c7 c8 c9 c10 c11 z2 z3 z4 f2 f3 f4;have c0:w2.cell? ⟨b1,0,none⟩=some (.int .i64 m.kind):=h1.cell (k:=0) rfl;have c1:w2.cell? ⟨b1,1,none⟩=some (.string m.user):=h1.cell (k:=1) rfl;have c2:w2.cell? ⟨b1,2,none⟩=some (int u64 (m.el.1:Int)):=h1.cell (k:=2) rfl;have c3:w2.cell? ⟨b1,3,none⟩=some (int u64 (m.el.2.1:Int)):=h1.cell (k:=3) rfl;have c4:w2.cell? ⟨b1,4,none⟩=some (.bool m.el.2.2):=h1.cell (k:=4) rfl;have c5:w2.cell? ⟨b1,5,none⟩=some (int u64 (m.ot.1:Int)):=h1.cell (k:=5) rfl;have c6:w2.cell? ⟨b1,6,none⟩=some (int u64 (m.ot.2.1:Int)):=h1.cell (k:=6) rfl;have c7:w2.cell? ⟨b1,7,none⟩=some (.bool m.ot.2.2):=h1.cell (k:=7) rfl;have c8:w2.cell? ⟨b1,8,none⟩=some (.string m.nonce):=h1.cell (k:=8) rfl;have c9:w2.cell? ⟨b1,9,none⟩=some (.string m.box):=h1.cell (k:=9) rfl;have c10:w2.cell? ⟨b1,10,none⟩=some (.string m.mac):=h1.cell (k:=10) rfl;have c11:w2.cell? ⟨b1,11,none⟩=some (.int .i64 m.code):=h1.cell (k:=11) rfl;have z5:w2.cell? ⟨b3,5,none⟩=some (int u64 0):=h3.cell (k:=5) rfl;have z6:w2.cell? ⟨b3,6,none⟩=some (int u64 0):=h3.cell (k:=6) rfl;have z7:w2.cell? ⟨b3,7,none⟩=some (.bool false):=h3.cell (k:=7) rfl;have z8:w2.cell? ⟨b3,8,none⟩=some (.string ⟨#[]⟩):=h3.cell (k:=8) rfl;have z9:w2.cell? ⟨b3,9,none⟩=some (.string ⟨#[]⟩):=h3.cell (k:=9) rfl;have z10:w2.cell? ⟨b3,10,none⟩=some (.string ⟨#[]⟩):=h3.cell (k:=10) rfl;have z11:w2.cell? ⟨b3,11,none⟩=some (.int .i64 0):=h3.cell (k:=11) rfl;have f5:=h3.frz 5;have f6:=h3.frz 6;have f7:=h3.frz 7;have f8:=h3.frz 8;have f9:=h3.frz 9;have f10:=h3.frz 10;have f11:=h3.frz 11;have y0:w2.cell? ⟨b3,0,none⟩=some (.int .i64 m.kind):=h3.cell (k:=0) rfl;have y1:w2.cell? ⟨b3,1,none⟩=some (.string m.user):=h3.cell (k:=1) rfl;have y2:w2.cell? ⟨b3,2,none⟩=some (int u64 (m.el.1:Int)):=h3.cell (k:=2) rfl;have y3:w2.cell? ⟨b3,3,none⟩=some (int u64 (m.el.2.1:Int)):=h3.cell (k:=3) rfl;have y4:w2.cell? ⟨b3,4,none⟩=some (.bool m.el.2.2):=h3.cell (k:=4) rfl;have x0:w2.cell? ⟨b2,0,none⟩=some (.int .i64 0):=h2.cell (k:=0) rfl;have x1:w2.cell? ⟨b2,1,none⟩=some (.string ⟨#[]⟩):=h2.cell (k:=1) rfl;have x2:w2.cell? ⟨b2,2,none⟩=some (int u64 0):=h2.cell (k:=2) rfl;have x3:w2.cell? ⟨b2,3,none⟩=some (int u64 0):=h2.cell (k:=3) rfl;have x4:w2.cell? ⟨b2,4,none⟩=some (.bool false):=h2.cell (k:=4) rfl;have x5:w2.cell? ⟨b2,5,none⟩=some (int u64 0):=h2.cell (k:=5) rfl;have x6:w2.cell? ⟨b2,6,none⟩=some (int u64 0):=h2.cell (k:=6) rfl;have x7:w2.cell? ⟨b2,7,none⟩=some (.bool false):=h2.cell (k:=7) rfl;have x8:w2.cell? ⟨b2,8,none⟩=some (.string ⟨#[]⟩):=h2.cell (k:=8) rfl;have x9:w2.cell? ⟨b2,9,none⟩=some (.string ⟨#[]⟩):=h2.cell (k:=9) rfl;have x10:w2.cell? ⟨b2,10,none⟩=some (.string ⟨#[]⟩):=h2.cell (k:=10) rfl;have x11:w2.cell? ⟨b2,11,none⟩=some (.int .i64 0):=h2.cell (k:=11) rfl;have g0:=h2.frz 0;have g1:=h2.frz 1;have g2:=h2.frz 2;have g3:=h2.frz 3;have g4:=h2.frz 4;have g5:=h2.frz 5;have g6:=h2.frz 6;have g7:=h2.frz 7;have g8:=h2.frz 8;have g9:=h2.frz 9;have g10:=h2.frz 10;have g11:=h2.frz 11;go_wp2
  all_goals
    have hg:=grownT (grownT (grownT (grownT (grownT (grownT (grownS w2 b3 5 (int u64 (m.ot.1:Int))) (grownS _ b3 6 (int u64 (m.ot.2.1:Int)))) (grownS _ b3 7 (.bool m.ot.2.2))) (grownS _ b3 8 (.string m.nonce))) (grownS _ b3 9 (.string m.box))) (grownS _ b3 10 (.string m.mac))) (grownS _ b3 11 (.int .i64 m.code));have hMn:=(((((((((((((h2.keptBy hg (fun h=>n23' (Option.some.inj h))).set 0 (.int .i64 m.kind)).set 1 (.string m.user)).set 2 (int u64 (m.el.1:Int))).set 3 (int u64 (m.el.2.1:Int))).set 4 (.bool m.el.2.2)).set 5 (int u64 (m.ot.1:Int))).set 6 (int u64 (m.ot.2.1:Int))).set 7 (.bool m.ot.2.2)).set 8 (.string m.nonce)).set 9 (.string m.box)).set 10 (.string m.mac)).set 11 (.int .i64 m.code));have hBn:=(((((((((((((((((((hB.setCell (p:=⟨b3,5,none⟩) l3 (int u64 (m.ot.1:Int))).setCell (p:=⟨b3,6,none⟩) l3 (int u64 (m.ot.2.1:Int))).setCell (p:=⟨b3,7,none⟩) l3 (.bool m.ot.2.2)).setCell (p:=⟨b3,8,none⟩) l3 (.string m.nonce)).setCell (p:=⟨b3,9,none⟩) l3 (.string m.box)).setCell (p:=⟨b3,10,none⟩) l3 (.string m.mac)).setCell (p:=⟨b3,11,none⟩) l3 (.int .i64 m.code)).setCell (p:=⟨b2,0,none⟩) l2 (.int .i64 m.kind)).setCell (p:=⟨b2,1,none⟩) l2 (.string m.user)).setCell (p:=⟨b2,2,none⟩) l2 (int u64 (m.el.1:Int))).setCell (p:=⟨b2,3,none⟩) l2 (int u64 (m.el.2.1:Int))).setCell (p:=⟨b2,4,none⟩) l2 (.bool m.el.2.2)).setCell (p:=⟨b2,5,none⟩) l2 (int u64 (m.ot.1:Int))).setCell (p:=⟨b2,6,none⟩) l2 (int u64 (m.ot.2.1:Int))).setCell (p:=⟨b2,7,none⟩) l2 (.bool m.ot.2.2)).setCell (p:=⟨b2,8,none⟩) l2 (.string m.nonce)).setCell (p:=⟨b2,9,none⟩) l2 (.string m.box)).setCell (p:=⟨b2,10,none⟩) l2 (.string m.mac)).setCell (p:=⟨b2,11,none⟩) l2 (.int .i64 m.code));simp only [List.setIfInBounds_toArray,List.set_cons_zero,List.set_cons_succ] at hMn;refine bodyPost_ret (v:= .agg #[.int .i64 m.kind,.string m.user,int u64 (m.el.1:Int),int u64 (m.el.2.1:Int),.bool m.el.2.2,int u64 (m.ot.1:Int),int u64 (m.ot.2.1:Int),.bool m.ot.2.2,.string m.nonce,.string m.box,.string m.mac,.int .i64 m.code]) (bk_res1 (fn:=Try.f21) (p:=2) results21 _ rfl hMn underlying40 rfl (by kernel_rfl)) rfl ⟨rfl,hBn⟩
section
open Go.ChangeShapes Go.WideShapes Go.ChangeAt Go.Deep M
theorem cellsI:prog.cellsOf 3=1:=by kernel_rfl
theorem cellsS:prog.cellsOf 9=1:=by kernel_rfl
theorem cellsLM:prog.cellsOf 36=12:=by kernel_rfl
structure MsgIn (m:Msg):Prop where
  k:(Lit.int .i64 m.kind).wf=true
  c:(Lit.int .i64 m.code).wf=true
  ex:(Lit.int .u64 (m.el.1:Int)).wf=true
  ey:(Lit.int .u64 (m.el.2.1:Int)).wf=true
  ox:(Lit.int .u64 (m.ot.1:Int)).wf=true
  oy:(Lit.int .u64 (m.ot.2.1:Int)).wf=true
  us:m.user.size≤maxLen
  no:m.nonce.size≤maxLen
  bo:m.box.size≤maxLen
  ma:m.mac.size≤maxLen
section
variable {H:Type}{enc:TypeId×Value→H}{W:World}{base b0:Nat}{sp:Nat→Bool}{held:Bool}
def msgD (m:Msg):DataW H:= .agg [.lit (.int .i64 m.kind),.lit (.string m.user.data.toList),.agg [.lit (.int .u64 (m.el.1:Int)),.lit (.int .u64 (m.el.2.1:Int)),.lit (.bool m.el.2.2)],.agg [.lit (.int .u64 (m.ot.1:Int)),.lit (.int .u64 (m.ot.2.1:Int)),.lit (.bool m.ot.2.2)],.lit (.string m.nonce.data.toList),.lit (.string m.box.data.toList),.lit (.string m.mac.data.toList),.lit (.int .i64 m.code)]
theorem trod_pt {fuel:Nat}{cs:List Value}{x:DataW H×List MemPlace}(h:DataW.trod enc prog W base sp held fuel 24 cs=some x):
    ∃(a b:Nat) (c:Bool),cs= [.int .u64 a,.int .u64 b,.bool c]∧x=(.agg [.lit (.int .u64 a),.lit (.int .u64 b),.lit (.bool c)],[])∧(Lit.int .u64 (a:Int)).wf=true∧(Lit.int .u64 (b:Int)).wf=true:=by
  obtain⟨y0,y1,y2,n,hx,hl,t0,t1,t2⟩:=trod_struct3 underlying24 h;rw [cellsLP] at hl;simp only [cellsU,cellsB] at t0 t1 t2;obtain⟨a,e0,rfl,w0⟩:=DataW.trod_int underlying22 t0;obtain⟨b,e1,rfl,w1⟩:=DataW.trod_int underlying22 t1;obtain⟨c,e2,rfl⟩:=DataW.trod_bool underlying4 t2
  match cs,hl with
  | [p,q,s],_=>
    simp at e0 e1 e2;subst e0 e1 e2;obtain⟨x,rfl,lx⟩:=u64_nat w0;obtain⟨y,rfl,ly⟩:=u64_nat w1;exact⟨x,y,c,rfl,hx,w0,w1⟩
theorem trod_struct8 {P:Program}{t:TypeId}{f0 f1 f2 f3 f4 f5 f6 f7:Field}{fuel:Nat}{cs:List Value}{x:DataW H×List MemPlace}(ht:P.underlying t=some (.struct #[f0,f1,f2,f3,f4,f5,f6,f7]))(h:DataW.trod enc P W base sp held fuel t cs=some x):
    ∃y0 y1 y2 y3 y4 y5 y6 y7 n,x=(.agg [y0.1,y1.1,y2.1,y3.1,y4.1,y5.1,y6.1,y7.1],y0.2++(y1.2++(y2.2++(y3.2++(y4.2++(y5.2++(y6.2++(y7.2))))))))∧cs.length=P.cellsOf t∧DataW.trod enc P W base sp held n f0.type ((cs.drop f0.offset).take (P.cellsOf f0.type))=some y0∧DataW.trod enc P W base sp held n f1.type ((cs.drop f1.offset).take (P.cellsOf f1.type))=some y1∧DataW.trod enc P W base sp held n f2.type ((cs.drop f2.offset).take (P.cellsOf f2.type))=some y2∧DataW.trod enc P W base sp held n f3.type ((cs.drop f3.offset).take (P.cellsOf f3.type))=some y3∧DataW.trod enc P W base sp held n f4.type ((cs.drop f4.offset).take (P.cellsOf f4.type))=some y4∧DataW.trod enc P W base sp held n f5.type ((cs.drop f5.offset).take (P.cellsOf f5.type))=some y5∧DataW.trod enc P W base sp held n f6.type ((cs.drop f6.offset).take (P.cellsOf f6.type))=some y6∧DataW.trod enc P W base sp held n f7.type ((cs.drop f7.offset).take (P.cellsOf f7.type))=some y7:=by
  obtain⟨xs,n,_,rfl,hl,hlen,hf⟩:=DataW.trod_struct ht h
  match xs,hlen with
  | [y0,y1,y2,y3,y4,y5,y6,y7],_=>exact ⟨y0,y1,y2,y3,y4,y5,y6,y7,n,by simp,hl,by simpa using hf 0 f0 rfl,by simpa using hf 1 f1 rfl,by simpa using hf 2 f2 rfl,by simpa using hf 3 f3 rfl,by simpa using hf 4 f4 rfl,by simpa using hf 5 f5 rfl,by simpa using hf 6 f6 rfl,by simpa using hf 7 f7 rfl⟩
theorem open_msg {r:Reach}{v:Value}{d:DataW H}{ps:List MemPlace}(hval:Value.okWide prog W r b0 36 v)(hd:DataW.Trod enc prog W base sp held 36 v d ps):
    ∃m:Msg,v= .agg (msgL m).toArray∧d=msgD m∧ps= []∧MsgIn m:=by
  obtain⟨cs,rfl,hs⟩:=okWide_struct underlying36 hval;rw [cellsLM] at hs;obtain⟨fuel,hf⟩:=hd;obtain⟨y0,y1,y2,y3,y4,y5,y6,y7,n,hx,-,t0,t1,t2,t3,t4,t5,t6,t7⟩:=trod_struct8 underlying36 hf;simp only [cellsI,cellsS,cellsLP] at t0 t1 t2 t3 t4 t5 t6 t7;obtain⟨a0,e0,rfl,w0⟩:=DataW.trod_int underlying3 t0;obtain⟨a1,e1,rfl,w1⟩:=DataW.trod_string underlying9 t1;obtain⟨a2,a3,a4,e2,rfl,w2,w3⟩:=trod_pt t2;obtain⟨a5,a6,a7,e3,rfl,w5,w6⟩:=trod_pt t3;obtain⟨a8,e4,rfl,w8⟩:=DataW.trod_string underlying9 t4;obtain⟨a9,e5,rfl,w9⟩:=DataW.trod_string underlying9 t5;obtain⟨a10,e6,rfl,w10⟩:=DataW.trod_string underlying9 t6;obtain⟨a11,e7,rfl,w11⟩:=DataW.trod_int underlying3 t7;obtain⟨l⟩:=cs
  match l,hs with
  | [p0,p1,p2,p3,p4,p5,p6,p7,p8,p9,p10,p11],_=>
    simp [Value.cells] at e0 e1 e2 e3 e4 e5 e6 e7;obtain⟨e2,e2',e2''⟩:=e2;obtain⟨e3,e3',e3''⟩:=e3;subst e0 e1 e2 e2' e2'' e3 e3' e3'' e4 e5 e6 e7;simp at hx;exact⟨⟨a0,a1,(a2,a3,a4),(a5,a6,a7),a8,a9,a10,a11⟩,rfl,hx.1,hx.2,⟨w0,w11,w2,w3,w5,w6,w1,w8,w9,w10⟩⟩
theorem shut_msg {m:Msg}(h:MsgIn m):DataW.Trod enc prog W base sp held 36 (.agg (msgL m).toArray) (msgD m) []:=by
  refine⟨3,?_⟩
  have hp:∀(x y:Nat) (c:Bool),(Lit.int .u64 (x:Int)).wf=true→(Lit.int .u64 (y:Int)).wf=true→DataW.trod enc prog W base sp held 2 24 [.int .u64 (x:Int),.int .u64 (y:Int),.bool c]=some (.agg [.lit (.int .u64 x),.lit (.int .u64 y),.lit (.bool c)],[]):=fun x y c wx wy=>
    trod_struct3_mk (enc:=enc) (w:=W) (base:=base) (spare:=sp) (held:=held) (n:=1) (cs:= [.int .u64 x,.int .u64 y,.bool c]) (y0:=(.lit (.int .u64 x),[])) (y1:=(.lit (.int .u64 y),[])) (y2:=(.lit (.bool c),[])) underlying24 (by rw [cellsLP];rfl)
      (by simp only [cellsU];exact trod_int_mk 0 underlying22 wx) (by simp only [cellsU];exact trod_int_mk 0 underlying22 wy) (by simp only [cellsB];simp [DataW.trod,underlying4])
  have hs:∀t:ByteArray,t.size≤maxLen→DataW.trod enc prog W base sp held 2 9 [.string t]=some (.lit (.string t.data.toList),[]):=fun t ht=>by simp [DataW.trod,underlying9,ht]
  have h0:=trod_int_mk (enc:=enc) (w:=W) (base:=base) (spare:=sp) (held:=held) 1 underlying3 h.k;have h7:=trod_int_mk (enc:=enc) (w:=W) (base:=base) (spare:=sp) (held:=held) 1 underlying3 h.c;have h2:=hp _ _ m.el.2.2 h.ex h.ey;have h3:=hp _ _ m.ot.2.2 h.ox h.oy;have h1:=hs _ h.us;have h4:=hs _ h.no;have h5:=hs _ h.bo;have h6:=hs _ h.ma;clear hp hs
  have:=trod_struct_mk (enc:=enc) (w:=W) (base:=base) (spare:=sp) (held:=held) (n:=2) (cs:=msgL m) (xs:= [(.lit (.int .i64 m.kind),[]),(.lit (.string m.user.data.toList),[]),(.agg [.lit (.int .u64 (m.el.1:Int)),.lit (.int .u64 (m.el.2.1:Int)),.lit (.bool m.el.2.2)],[]),(.agg [.lit (.int .u64 (m.ot.1:Int)),.lit (.int .u64 (m.ot.2.1:Int)),.lit (.bool m.ot.2.2)],[]),(.lit (.string m.nonce.data.toList),[]),(.lit (.string m.box.data.toList),[]),(.lit (.string m.mac.data.toList),[]),(.lit (.int .i64 m.code),[])]) underlying36 (by rw [cellsLM];rfl)
    (by simp [cellsI,cellsS,cellsLP,msgL,h0,h1,h2,h3,h4,h5,h6,h7])
  exact this
end
end
section
open M
end
def ltN:Lt→Nat
  | .u=>117
  | .e=>101
  | .o=>111
  | .n=>110
  | .b=>98
  | .m=>109
  | .c=>99
def ltB (l:List Lt):ByteArray:=⟨(l.map fun q=>(ltN q).toUInt8).toArray⟩
theorem flS_yes (k:Int)(w:World)(h:kindB k=true):Cr 35 #[.int .i64 k] w (.string (ltB (flds k))):=by
  have hb:=(Bk.new w 9 #[.string ⟨#[117,101]⟩,.string ⟨#[101]⟩,.string ⟨#[117,111,98]⟩,.string ⟨#[117,101,111,110]⟩,.string ⟨#[101,111,110,98,109]⟩,.string ⟨#[109]⟩,.string ⟨#[]⟩,.string ⟨#[99]⟩]);have hB:=balc w (Obj.cells #[.string ⟨#[117,101]⟩,.string ⟨#[101]⟩,.string ⟨#[117,111,98]⟩,.string ⟨#[117,101,111,110]⟩,.string ⟨#[101,111,110,98,109]⟩,.string ⟨#[109]⟩,.string ⟨#[]⟩,.string ⟨#[99]⟩] 9);rcases kind_cases h with rfl|rfl|rfl|rfl|rfl|rfl|rfl|rfl
  · have c:=hb.cell (k:=0) rfl;go_enter func35,ntmps35;go_wp2;go_ret;exact⟨rfl,hB⟩
  · have c:=hb.cell (k:=1) rfl;go_enter func35,ntmps35;go_wp2;go_ret;exact⟨rfl,hB⟩
  · have c:=hb.cell (k:=2) rfl;go_enter func35,ntmps35;go_wp2;go_ret;exact⟨rfl,hB⟩
  · have c:=hb.cell (k:=3) rfl;go_enter func35,ntmps35;go_wp2;go_ret;exact⟨rfl,hB⟩
  · have c:=hb.cell (k:=4) rfl;go_enter func35,ntmps35;go_wp2;go_ret;exact⟨rfl,hB⟩
  · have c:=hb.cell (k:=5) rfl;go_enter func35,ntmps35;go_wp2;go_ret;exact⟨rfl,hB⟩
  · have c:=hb.cell (k:=6) rfl;go_enter func35,ntmps35;go_wp2;go_ret;exact⟨rfl,hB⟩
  · have c:=hb.cell (k:=7) rfl;go_enter func35,ntmps35;go_wp2;go_ret;exact⟨rfl,hB⟩
theorem nmS (s:ByteArray)(w:World):Calls prog 56 #[.string s] w fun e w'=>e= .returned (.bool (nameB s))∧w=w':=by
  by_cases h1:(1:Int)≤(s.size:Int)
  · by_cases h2:(s.size:Int)≤32
    · have e:nameB s=true:=decide_eq_true (by omega);rw [e];go_enter func56,ntmps56;go_wp2;go_ret;exact⟨rfl,rfl⟩
    · have e:nameB s=false:=decide_eq_false (by omega);rw [e];go_enter func56,ntmps56;go_wp2;go_ret;exact⟨rfl,rfl⟩
  · have e:nameB s=false:=decide_eq_false (by omega);rw [e];go_enter func56,ntmps56;go_wp2;go_ret;exact⟨rfl,rfl⟩
theorem elS (t:Nat×Nat×Bool)(w:World):Cr 58 #[.agg #[int u64 (t.1:Int),int u64 (t.2.1:Int),.bool t.2.2]] w (.bool (elM t)):=by
  have H:=onS_any t.1 t.2.1 t.2.2;unfold elM;generalize (toPt t.1 t.2.1 t.2.2).isSome=oc at*;obtain⟨x,y,z⟩:=t;simp only at H⊢;have hr:=Bk.new w 26 #[int u64 (x:Int),int u64 (y:Int),.bool z];have hB:=balc w (Obj.cells #[int u64 (x:Int),int u64 (y:Int),.bool z] 26);have c0:=hr.cell (k:=0) rfl;have c1:=hr.cell (k:=1) rfl;have c2:=hr.cell (k:=2) rfl;cases oc
  · go_enter func58,ntmps58;go_wp2_with fail;refine(H _).mono ?_;rintro e w1 ⟨rfl,b1⟩;replace hB:=hB.tr b1;clear H b1 c0 c1 c2;go_wp2;go_ret;exact⟨rfl,hB⟩
  · go_enter func58,ntmps58;go_wp2_with fail;refine(H _).mono ?_;rintro e w1 ⟨rfl,b1⟩;replace hB:=hB.tr b1;replace hr:=hr.keep b1;clear H b1 c0 c1 c2;have c2:=hr.cell (k:=2) rfl;go_wp2;go_ret;refine⟨?_,hB⟩;cases z<;>rfl
theorem szU (s:ByteArray)(w:World)(h:s.size≤2097152):
    Cr 55 #[.string s] w (.string (sizB s)):=by
  have e1:IntKind.u8.wrap ((s.size:Int)/256)=((s.size/256%256:Nat):Int):=by rw [IntKind.wrap_u8];omega
  have e2:IntKind.u8.wrap (s.size:Int)=((s.size%256:Nat):Int):=by rw [IntKind.wrap_u8];omega
  have hcv:=conv2 w ((s.size/256%256:Nat):Int) ((s.size%256:Nat):Int);unfold sizB;obtain⟨T,hT⟩:∃T,Hid (T=strOfNums [((s.size/256%256:Nat):Int),((s.size%256:Nat):Int)]):=⟨_,rfl⟩;have hTs:T.size=2:=by rw [hT.out,strOfNums_size];rfl
  rw [←hT.out] at hcv⊢;generalize ((s.size/256%256:Nat):Int)=a1 at*;generalize ((s.size%256:Nat):Int)=a2 at*;go_enter func55,ntmps55;go_wp2;go_ret;exact⟨rfl,(Below.refl _ w).alloc (Nat.le_refl _) _⟩
end Go.Proofs.Ytnfbfpegagcanaa
