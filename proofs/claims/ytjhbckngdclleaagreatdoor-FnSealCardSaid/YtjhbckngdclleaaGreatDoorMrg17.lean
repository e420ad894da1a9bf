import Derived.Test.YtjhbckngdclleaaGreatDoorMrg16
set_option linter.unusedVariables false
set_option maxRecDepth 100000
set_option maxHeartbeats 16000000
namespace Go.Proofs.YtjhbckngdclleaaGreatDoor
open Go.Proofs.Tryz Go.RowKit
open Go.Value (int)
open Go.IntKind (u64)
def h2f (msg tag:List Int)(m c:Nat):List Int:=(List.range c).map (fun i=>((numL (piece (expM msg tag (24*c)) i)%m:Nat):Int))
theorem h2f_length (msg tag:List Int)(m c:Nat):(h2f msg tag m c).length=c:=by simp [h2f]
theorem h2f_take (msg tag:List Int)(m c k:Nat)(hk:k<c):(h2f msg tag m c).take (k+1)=(h2f msg tag m c).take k++ [((numL (piece (expM msg tag (24*c)) k)%m:Nat):Int)]:=by
  rw [List.take_succ_eq_append_getElem (by rw [h2f_length];exact hk)];simp [h2f]
theorem str_piece (l:List Int)(k:Nat):(strOfNums l).extract (24*k) (24*k+24)=strOfNums (piece l k):=by
  apply ByteArray.ext;simp [strOfNums,piece,List.map_take,List.map_drop]
theorem piece_lt {l:List Int}(h:∀x∈l,0≤x∧x<256)(k:Nat):∀x∈piece l k,0≤x∧x<256:=fun x hx=>h x (List.mem_of_mem_drop (List.mem_of_mem_take hx))
theorem piece_length {l:List Int}{c:Nat}(h:l.length=24*c)(k:Nat)(hk:k<c):(piece l k).length=24:=by
  rw [piece,List.length_take,List.length_drop];omega
def okH (msg tag:ByteArray)(m:Nat)(c:Int):Prop:=1≤c∧c≤340∧m≠0∧okM msg tag (24*c)
theorem own_keep {w w':World}{base:Nat}{e:TypeId}{size:Nat}{v:Value}{n:Nat}{xs:List Value}(h:w.ownsRow base e size v n xs)(hb:Bl w w'):w'.ownsRow base e size v n xs:=by
  obtain⟨h1,h2⟩:=h;refine⟨h1,?_⟩;rcases h2 with h|⟨g,cap,cur,rfl,hbg,hg,h3⟩
  · exact .inl h
  · exact .inr ⟨g,cap,cur,rfl,hbg,(hb.block g (Array.getElem?_eq_some_iff.1 hg).1).trans hg,h3⟩
theorem infoW:(prog.info? 22).map (fun i=>(i.zero,i.size,i.bytes))=some (some (int u64 0),1,8):=by kernel_rfl
theorem h2fS_yes (msg tag:ByteArray)(m c:Nat)(w:World)(hm:m<18446744073709551616)(h:okH msg tag m c):
    Calls prog 107 #[.string msg,.string tag,int u64 m,.int .i64 c] w fun e w'=>∃g cap,e= .returned (.tuple #[.slice (some ⟨g,0,none⟩) c cap,.bool true])∧Row w' w.heap.size g c cap ((h2f (byt msg) (byt tag) m c).map (Value.int .u64))∧Bl w w':=by
  obtain⟨i0,hi,hz0,hz1,hz2⟩:=info_parts infoW;obtain⟨h1,h2,h3,h4⟩:=h;obtain⟨N,hN⟩:∃N:Nat,N=24*c:=⟨_,rfl⟩;have hNi:(N:Int)=24*(c:Int):=by omega
  have X:=fun w=>exmS_yes msg tag N w (by rw [hNi];exact h4)
  rw [hNi] at X;have hlen:=expM_length (byt msg) (byt tag) N;have hby:=expM_lt (byt msg) (byt tag) N;have hll:=h2f_length (byt msg) (byt tag) m c;have htk:=h2f_take (byt msg) (byt tag) m c;rw [←hN] at htk;generalize expM (byt msg) (byt tag) N=L at*;generalize h2f (byt msg) (byt tag) m c=H at*;have hzS:(strOfNums L).size=24*c:=by rw [strOfNums_size];omega
  have g1: ¬ (c:Int)<1:=by omega
  have g2: ¬ (340:Int)<(c:Int):=by omega
  have g3:((m:Int)==0)=false:=by simp;omega
  have hr0:Row (w.alloc (.cells #[] 22)) w.heap.size w.heap.size 0 0 []:=Row.of_block (n:=0) (cs:=#[]) (heap_alloc_new w _) (Nat.le_refl _) (by simp) (by simp);have hb0:Bl w (w.alloc (.cells #[] 22)):=(Below.refl _ _).alloc (Nat.le_refl _) _;go_enter func107,ntmps107;go_wp2_with fail;refine(X _).mono ?_;rintro e W1 ⟨rfl,hb1⟩;replace hr0:=hr0.below hb1 hr0.hi;replace hb0:=hb0.tr hb1;clear X hb1;go_wp2
  go_loopw [10,13] (fun ov iv wr=>∃k g cap:Nat,k≤c∧iv= .int .i64 (k:Int)∧ov= .slice (some ⟨g,0,none⟩) k cap∧Row wr w.heap.size g k cap ((H.take k).map (Value.int .u64))∧Bl w wr) (fun _ i _=>c-(intOf i).toNat)
  case atStart=>exact ⟨0,w.heap.size,0,by omega,rfl,rfl,hr0,hb0⟩
  case round=>
    clear hr0 hb0;obtain⟨k,g,cap,hk,rfl,rfl,hrow,hbl⟩:=hrel;have hsz:=hbl.size;by_cases hlt:k<c
    · have hli:(k:Int)<(c:Int):=by omega
      have q1:IntKind.i64.wrap (24*(k:Int))=24*(k:Int):=i64_in _ (by omega) (by omega);have q2:IntKind.i64.wrap (24*(k:Int)+24)=24*(k:Int)+24:=i64_in _ (by omega) (by omega);have q3:(0:Int)≤24*(k:Int):=by omega
      have q4:24*(k:Int)+24≤((strOfNums L).size:Int):=by omega
      have t1:(24*(k:Int)).toNat=24*k:=by omega
      have t2:(24*(k:Int)+24).toNat=24*k+24:=by omega
      have hp:=piece_length (l:=L) (c:=c) (by omega) k hlt;have R:=fun w=>redS_any (strOfNums (piece L k)) m w (by rw [strOfNums_size];omega) hm h3
      rw [byt_str _ (piece_lt hby k)] at R;have hpe:=str_piece L k;have ht:=htk k hlt;generalize ((numL (piece L k)%m:Nat):Int)=z at*;go_wp2_with fail;refine(R _).mono ?_;rintro e w' ⟨rfl,rfl⟩;clear R
      go_wp2_with (first
        |(at_builtin;refine wpList_append_row rfl _ _ 157 rfl w.heap.size 22 i0 (int u64 0) 8 underlying157 hi hz0 hz1 hz2 rfl g k cap ((H.take k).map (Value.int .u64)) rfl (hrow.alloc _) ⟨wr.heap.size,0,none⟩ 1 1 [int u64 z] rfl rfl (World.news_of_block (cs:=#[int u64 z]) (heap_alloc_new wr _)) (by simp [Value.oneCell']) (by unfold maxLen;omega) (by omega) (by simp;omega) _ rfl ?_;intro g2 cap2 w2 hrow2 hgr2 _ _)
        |go_in)
      have R1:Row w2 w.heap.size g2 (k+1) cap2 ((H.take (k+1)).map (Value.int .u64)):=by rw [ht,List.map_append];exact hrow2
      have R2:Bl w w2:=(hbl.alloc hsz _).grown hgr2 (by simp;omega) (fun r hr=>by simp at hr;have:=hrow.lo;omega);go_roundw
      case rel=>
        first
          |exact ⟨k+1,g2,cap2,by omega,by go_num,rfl,R1,R2⟩
          |((repeat apply Exists.intro);exact⟨⟨k+1,g2,cap2,by omega,by go_num,rfl,R1,R2⟩,rfl⟩)
      case measure=>simp [intOf];omega
    · obtain rfl:k=c:=by omega
      rw [List.take_of_length_le (by omega)] at hrow;go_wp2;go_ret2;exact⟨g,cap,rfl,hrow,hbl⟩
def okT (msg tag:ByteArray):Prop:=1≤tag.size∧tag.size≤255∧msg.size≤65535
theorem okT_H {msg tag:ByteArray}{m:Nat}{c:Int}(h0:m≠0)(h1:1≤c)(h2:c≤340):okT msg tag↔okH msg tag m c:=by
  constructor
  · rintro⟨h3,h4,h5⟩;exact⟨h1,h2,h0,h3,h4,by omega,by omega,h5⟩
  · rintro⟨-,-,-,h3,h4,-,-,h5⟩;exact⟨h3,h4,h5⟩
def hNum (msg tag:ByteArray)(m c i:Nat):Nat:=numL (piece (expM (byt msg) (byt tag) (24*c)) i)%m
theorem h2f_at (msg tag:ByteArray)(m c i:Nat)(hi:i<c):lk (h2f (byt msg) (byt tag) m c) i=(hNum msg tag m c i:Nat):=by
  unfold lk h2f hNum;rw [List.getD_eq_getElem?_getD,List.getElem?_map,List.getElem?_range hi];rfl
theorem h2sS_yes (msg tag:ByteArray)(w:World)(h:okT msg tag):
    Cr 54 #[.string msg,.string tag] w (.tuple #[int u64 (hNum msg tag 2305843010818082053 1 0:Nat),.bool true]):=by
  have X:∀w,Calls prog 107 #[.string msg,.string tag,int u64 2305843010818082053,.int .i64 1] w fun e w'=>∃g cap,e= .returned (.tuple #[.slice (some ⟨g,0,none⟩) 1 cap,.bool true])∧Row w' w.heap.size g 1 cap ((h2f (byt msg) (byt tag) 2305843010818082053 1).map (Value.int .u64))∧Bl w w':=
    fun w=>h2fS_yes msg tag 2305843010818082053 1 w (by decide) ((okT_H (by decide) (by decide) (by decide)).1 h)
  have hz:=h2f_at msg tag 2305843010818082053 1 0 (by omega);generalize ((hNum msg tag 2305843010818082053 1 0:Nat):Int)=z at*;go_enter func54,ntmps54;go_wp2_with fail;refine(X _).mono ?_;rintro e W1 ⟨g,cap,rfl,hr,hb⟩;have hc:=hr.cell 0 (by omega);rw [hz] at hc;clear X hz;go_wp2;go_ret2;exact⟨rfl,hb⟩
end Go.Proofs.YtjhbckngdclleaaGreatDoor
