import Derived.Test.YtmjniccfjffclaaGreatDoorMrg9
set_option linter.unusedVariables false
set_option maxRecDepth 100000
set_option maxHeartbeats 16000000
namespace Go.Proofs.YtmjniccfjffclaaGreatDoor
open Go.Proofs.Tryz Go.RowKit
open Go.Value (int)
open Go.IntKind (u64)
theorem exmS_no (msg tag:ByteArray)(n:Int)(w:World)(h: ¬ okM msg tag n):
    Cr 162 #[.string msg,.string tag,.int .i64 n] w (.tuple #[.string ⟨#[]⟩,.bool false]):=by
  by_cases h1:tag.size<1
  · have g1:(tag.size:Int)<1:=by omega
    go_enter func162,ntmps162;go_wp2;go_ret2;exact⟨rfl,Below.refl _ _⟩
  · have g1 : ¬ (tag.size:Int)<1:=by omega
    by_cases h2:255<tag.size
    · have g2:(255:Int)<(tag.size:Int):=by omega
      go_enter func162,ntmps162;go_wp2;go_ret2;exact⟨rfl,Below.refl _ _⟩
    · have g2: ¬ (255:Int)<(tag.size:Int):=by omega
      by_cases h3:n<1
      · go_enter func162,ntmps162;go_wp2;go_ret2;exact⟨rfl,Below.refl _ _⟩
      · by_cases h4:8160<n
        · go_enter func162,ntmps162;go_wp2;go_ret2;exact⟨rfl,Below.refl _ _⟩
        · by_cases h5:65535<msg.size
          · have g5:(65535:Int)<(msg.size:Int):=by omega
            go_enter func162,ntmps162;go_wp2;go_ret2;exact⟨rfl,Below.refl _ _⟩
          · exact absurd ⟨by omega,by omega,by omega,by omega,by omega⟩ h
theorem cf_long (args:Array Value)(w:World):(callFunc 102 args).run prog w= .ok (.enter 102 args) w:=by kernel_rfl
theorem cf_both (args:Array Value)(w:World):(callFunc 181 args).run prog w= .ok (.enter 181 args) w:=by kernel_rfl
theorem cf_sha (args:Array Value)(w:World):(callFunc 94 args).run prog w= .ok (.enter 94 args) w:=by kernel_rfl
theorem conv1 {w:World}{b:Nat}{t:TypeId}{a:Int}(h:w.heap[b]? =some (.cells #[.int .u8 a] t))(i:Nat)(hi:i<1):w.cell? ⟨b,i,none⟩=some (.int .u8 (lk [a] i)):=by
  obtain rfl:i=0:=by omega
  exact block_cell h rfl
theorem conv3 {w:World}{b:Nat}{t:TypeId}{a c d:Int}(h:w.heap[b]? =some (.cells #[.int .u8 a,.int .u8 c,.int .u8 d] t))(i:Nat)(hi:i<3):w.cell? ⟨b,i,none⟩=some (.int .u8 (lk [a,c,d] i)):=by
  match i,hi with
  |0,_=>exact block_cell h rfl
  |1,_=>exact block_cell h rfl
  |2,_=>exact block_cell h rfl
theorem exmS_yes (msg tag:ByteArray)(n:Nat)(w:World)(h:okM msg tag n):
    Cr 162 #[.string msg,.string tag,.int .i64 n] w (.tuple #[.string (strOfNums (expM (byt msg) (byt tag) n)),.bool true]):=by
  obtain⟨E,hE0⟩:∃E,Hid (E=expM (byt msg) (byt tag) n):=⟨_,rfl⟩;rw [←hE0.out];obtain⟨h1,h2,h3,h4,h5⟩:=h;have g1: ¬ (tag.size:Int)<1:=by omega
  have g2: ¬ (255:Int)<(tag.size:Int):=by omega
  have g3: ¬ (n:Int)<1:=by omega
  have g4: ¬ (8160:Int)<(n:Int):=by omega
  have g5: ¬ (65535:Int)<(msg.size:Int):=by omega
  have hcv:=run_convert_bytes_arg (P:=prog) (w.alloc (.cells #[.int .u8 (tag.size:Int)] 5)) 22 5 underlying22 underlying5 w.heap.size 0 1 1 [(tag.size:Int)] rfl (fun i h=>by
    obtain rfl:i=0:=by omega
    rw [cell_of_row _ _ _ _ _ _ (heap_alloc_new w _)];rfl) 9 underlying9
  have e8:IntKind.u8.wrap (tag.size:Int)=(tag.size:Int):=u8_in _ (by omega) (by omega);have hzT:(strOfNums [(tag.size:Int)]).size=1:=by rw [strOfNums_size];rfl
  go_enter func162,ntmps162;go_wp2;obtain⟨T,hT⟩:∃T,T=tag++strOfNums [(tag.size:Int)]:=⟨_,rfl⟩;rw [←hT];have hTs:T.size=tag.size+1:=by rw [hT,ByteArray.size_append,hzT]
  have hTb:Hid (byt T=mTag (byt tag)):=by
    simp only [Hid];rw [hT,byt_append,mTag,byt_length,byt_str _ (fun x hx=>by simp at hx;omega)]
  have hb1:Bl w (w.alloc (.cells #[.int .u8 (tag.size:Int)] 5)):=(Below.refl _ _).alloc (Nat.le_refl _) _;generalize hW1:w.alloc (.cells #[.int .u8 (tag.size:Int)] 5)=W1 at*;clear hcv hT hzT e8 hW1;have Z64:∀w:World,Cr 102 #[.int .i64 64,.string ⟨#[0]⟩] w (.string (strOfNums (List.replicate 64 0))):=fun w=>(lonZ_any 64 (by omega) w).mono fun e w' ⟨h,h'⟩=>⟨h,h'▸Below.refl _ _⟩
  have Z32:∀w:World,Calls prog 102 #[.int .i64 32,.string ⟨#[0]⟩] w fun e w'=>e= .returned (.string (strOfNums (List.replicate 32 0)))∧w=w':=fun w=>lonZ_any 32 (by omega) w
  have ea:IntKind.u8.wrap ((n:Int)/256)=(n:Int)/256:=u8_in _ (by omega) (by omega);have ew:IntKind.i64.wrap ((n:Int)/256)=(n:Int)/256:=i64_in _ (by omega) (by omega);have ec:((n/256:Nat):Int)=(n:Int)/256:=by omega
  have ed:(n:Int).tdiv 256=(n:Int)/256:=Int.tdiv_eq_ediv_of_nonneg (by omega);have eb:IntKind.u8.wrap (n:Int)=((n%256:Nat):Int):=by rw [IntKind.wrap_u8'];omega
  have hn0:(0:Int)≤(n:Int):=by omega
  have hMs:(strOfNums [(n:Int)/256,((n%256:Nat):Int),0]).size=3:=by rw [strOfNums_size];rfl
  have hMb:Hid (byt (strOfNums [(n:Int)/256,((n%256:Nat):Int),0])= [((n/256:Nat):Int),((n%256:Nat):Int),0]):=by
    simp only [Hid];rw [ec,byt_str _ (fun x hx=>by simp at hx;omega)]
  have hz0:(strOfNums (List.replicate 64 0)).size=64:=by rw [strOfNums_size,List.length_replicate]
  have hz1:(strOfNums (List.replicate 32 0)).size=32:=by rw [strOfNums_size,List.length_replicate]
  obtain⟨F,hF⟩:∃F,F=mFirst (byt msg) (byt tag) n:=⟨_,rfl⟩
  have SF:∀w,Cr 94 #[.string (strOfNums (List.replicate 64 0)++msg++strOfNums [(n:Int)/256,((n%256:Nat):Int),0]++T)] w (.string (strOfNums F)):=fun w=>by
    have:=shaS_any (strOfNums (List.replicate 64 0)++msg++strOfNums [(n:Int)/256,((n%256:Nat):Int),0]++T) w (by simp only [ByteArray.size_append];omega);rwa [byt_append,byt_append,byt_append,byt_str _ (rep_lt 64),hMb.out,hTb.out,←mFirst,←hF] at this
  have hFl:F.length=32:=by rw [hF];exact mFirst_length _ _ _
  have hFb:∀x∈F,0≤x∧x<256:=by rw [hF];exact mFirst_lt _ _ _
  have hE:Hid (E=(mOut F (mTag (byt tag)) ((n+31)/32)).take n):=by simp only [Hid];rw [hE0.out,expM,hF]
  clear ec hMb hF hE0;generalize ((n%256:Nat):Int)=n2 at*;generalize strOfNums (List.replicate 64 0)=Z at*;have q1:Z.size+msg.size≤9223372036854775807:=by omega
  have q2:(Z++msg).size+(strOfNums [(n:Int)/256,n2,0]).size≤9223372036854775807:=by rw [ByteArray.size_append];omega
  have q3:(Z++msg++strOfNums [(n:Int)/256,n2,0]).size+T.size≤9223372036854775807:=by rw [ByteArray.size_append,ByteArray.size_append];omega
  generalize mTag (byt tag)=Tl at*
  refine pool_list [.val (.string Z),
      .val (.string msg),
      .val (.string (Z++msg)),
      .val (.int .i64 n),
      .val (.int .i64 ((n:Int)/256)),
      .val (.int .u8 ((n:Int)/256)),
      .val (.int .i64 n),
      .val (.int .u8 n2),
      .new (.cells #[.int .u8 ((n:Int)/256),.int .u8 n2,.int .u8 0] 5) (.cells #[.int .u8 ((n:Int)/256),.int .u8 n2,.int .u8 0] 5) 1003,
      .val (.string (strOfNums [(n:Int)/256,n2,0])),
      .val (.string (Z++msg++strOfNums [(n:Int)/256,n2,0])),
      .val (.string T),
      .val (.string (Z++msg++strOfNums [(n:Int)/256,n2,0]++T)),
      .val (.string (strOfNums F)),
      .val (.string (strOfNums F))] [[],[0],[41,42],[2],[44],[45],[2],[47],[46,48],[49],[43,50],[8],[51,52],[53],[54]] (fun f=> [(some 41,.string Z),(some 42,.string msg),(some 43,.string (Z++msg)),(some 44,.int .i64 n),(some 45,.int .i64 ((n:Int)/256)),(some 46,.int .u8 ((n:Int)/256)),(some 47,.int .i64 n),(some 48,.int .u8 n2),(some 49,.slice (some ⟨f 8,0,none⟩) 3 3),(some 50,.string (strOfNums [(n:Int)/256,n2,0])),(some 51,.string (Z++msg++strOfNums [(n:Int)/256,n2,0])),(some 52,.string T),(some 53,.string (Z++msg++strOfNums [(n:Int)/256,n2,0]++T)),(some 54,.string (strOfNums F)),(some 9,.string (strOfNums F))]) (by kernel_rfl) (by kernel_rfl) (by kernel_rfl) (by kernel_rfl) (fun _=>by kernel_rfl) ?_ ?_
  · intro ix hix
    match ix,hix with
    |0,_=>exact obv [] rfl rfl (fun A w _ hB=>doS_call2 cf_long rfl rfl (Z64 w))
    |1,_=>exact obv [(0,.string msg)] rfl rfl (fun A w ⟨e0,_⟩ hB=>doS_move e0)
    |2,_=>exact obv [(41,.string Z),(42,.string msg)] rfl rfl (fun A w ⟨e0,e1,_⟩ hB=>doS_cat e0 e1 q1)
    |3,_=>exact obv [(2,.int .i64 n)] rfl rfl (fun A w ⟨e0,_⟩ hB=>doS_move e0)
    |4,_=>exact obv [(44,.int .i64 n)] rfl rfl (fun A w ⟨e0,_⟩ hB=>doS_q256 e0 rfl hn0 ew)
    |5,_=>exact obv [(45,.int .i64 ((n:Int)/256))] rfl rfl (fun A w ⟨e0,_⟩ hB=>doS_c8 e0 ea)
    |6,_=>exact obv [(2,.int .i64 n)] rfl rfl (fun A w ⟨e0,_⟩ hB=>doS_move e0)
    |7,_=>exact obv [(47,.int .i64 n)] rfl rfl (fun A w ⟨e0,_⟩ hB=>doS_c8 e0 eb)
    |8,_=>exact ob_slc 3 [(46,.int .u8 ((n:Int)/256)),(48,.int .u8 n2)] rfl rfl (fun _=>by kernel_rfl) (fun A w ⟨e0,e1,_⟩=>doS_slc3 e0 e1 rfl)
    |9,_=>exact ob_use 49 8 1003 (.cells #[.int .u8 ((n:Int)/256),.int .u8 n2,.int .u8 0] 5) (fun f=> [(49,.slice (some ⟨f 8,0,none⟩) 3 3)]) rfl rfl (by decide) (by kernel_rfl) rfl (fun _=>by kernel_rfl) (fun f A w ⟨e0,_⟩ hB hr=>doS_conv e0 rfl (fun i h=>conv3 hr i h))
    |10,_=>exact obv [(43,.string (Z++msg)),(50,.string (strOfNums [(n:Int)/256,n2,0]))] rfl rfl (fun A w ⟨e0,e1,_⟩ hB=>doS_cat e0 e1 q2)
    |11,_=>exact obv [(8,.string T)] rfl rfl (fun A w ⟨e0,_⟩ hB=>doS_move e0)
    |12,_=>exact obv [(51,.string (Z++msg++strOfNums [(n:Int)/256,n2,0])),(52,.string T)] rfl rfl (fun A w ⟨e0,e1,_⟩ hB=>doS_cat e0 e1 q3)
    |13,_=>exact obv [(53,.string (Z++msg++strOfNums [(n:Int)/256,n2,0]++T))] rfl rfl (fun A w ⟨e0,_⟩ hB=>doS_call1 cf_sha e0 (SF w))
    |14,_=>exact obv [(54,.string (strOfNums F))] rfl rfl (fun A w ⟨e0,_⟩ hB=>doS_assign e0)
    |ix+15,h=>exact absurd h (by simp)
  intro f W2 hb2 _ _;have hbW:Bl w W2:=hb1.trans ((Below.refl _ W1).drew.trans hb2|>.mono hb1.size);simp only [puts,List.foldl,Act.put,List.setIfInBounds_toArray,List.set_cons_zero,List.set_cons_succ];have hFs:(strOfNums F).size=32:=by rw [strOfNums_size,hFl]
  clear SF hb1 hb2 hz0 q1 q2 q3 hMs;go_wp2_with fail;refine(Z32 _).mono ?_;rintro e w' ⟨rfl,rfl⟩;clear Z32 Z64;go_wp2
  go_loopw [10,11,12] (fun lv ov i wr=>∃k:Nat,32*k≤n+31∧i= .int .i64 ((k:Int)+1)∧lv= .string (strOfNums (mBlk F Tl k))∧ov= .string (strOfNums (mOut F Tl k))∧Bl w wr) (fun _ _ i _=>300-(intOf i).toNat)
  case atStart=>exact ⟨0,by omega,rfl,rfl,rfl,hbW⟩
  case round=>
    clear hbW;obtain⟨k,hkn,rfl,rfl,rfl,hbl⟩:=hrel;have hzo:(strOfNums (mOut F Tl k)).size=32*k:=by rw [strOfNums_size,mOut_length]
    have hzb:(strOfNums (mBlk F Tl k)).size=32:=by rw [strOfNums_size,mBlk_length]
    by_cases hlt:32*k<n
    · have hk255:k<255:=by omega
      have B:=fun w=>bothS_any (strOfNums F) (strOfNums (mBlk F Tl k)) w (by omega) (by omega)
      have hXs:(strOfNums (xorB (byt (strOfNums F)) (byt (strOfNums (mBlk F Tl k))))).size=32:=by rw [strOfNums_size,xorB_length,byt_length,byt_length];omega
      have hz1:(strOfNums [(k:Int)+1]).size=1:=by rw [strOfNums_size];rfl
      have hS:Hid (shaF (byt (strOfNums (xorB (byt (strOfNums F)) (byt (strOfNums (mBlk F Tl k))))++strOfNums [(k:Int)+1]++T))=mBlk F Tl (k+1)):=by
        simp only [Hid];rw [byt_append,byt_append,byt_str _ hFb,byt_str _ (mBlk_lt _ _ _),byt_str _ (xorB_lt _ _ hFb (mBlk_lt _ _ _)),byt_one k hk255,hTb.out,mBlk]
      have ho1:Hid (strOfNums (mOut F Tl k)++strOfNums (mBlk F Tl (k+1))=strOfNums (mOut F Tl (k+1))):=by
        simp only [Hid];rw [str_append',mOut]
      have hz2:(strOfNums (mBlk F Tl (k+1))).size=32:=by rw [strOfNums_size,mBlk_length]
      have e8:IntKind.u8.wrap ((k:Int)+1)=(k:Int)+1:=u8_in _ (by omega) (by omega);generalize strOfNums (xorB (byt (strOfNums F)) (byt (strOfNums (mBlk F Tl k))))=X at*
      have SB:∀w,Cr 94 #[.string (X++strOfNums [(k:Int)+1]++T)] w (.string (strOfNums (mBlk F Tl (k+1)))):=fun w=>by
        have:=shaS_any (X++strOfNums [(k:Int)+1]++T) w (by simp only [ByteArray.size_append];omega);rwa [hS.out] at this
      have q1:X.size+(strOfNums [(k:Int)+1]).size≤9223372036854775807:=by omega
      have q2:(X++strOfNums [(k:Int)+1]).size+T.size≤9223372036854775807:=by rw [ByteArray.size_append];omega
      clear hS;have hsr:=hbl.size;go_wp2
      refine pool_list [.val (.string (strOfNums F)),
          .val (.string (strOfNums (mBlk F Tl k))),
          .val (.string X),
          .val (.int .i64 ((k:Int)+1)),
          .val (.int .u8 ((k:Int)+1)),
          .new (.cells #[.int .u8 ((k:Int)+1)] 5) (.cells #[.int .u8 ((k:Int)+1)] 5) 1001,
          .val (.string (strOfNums [(k:Int)+1])),
          .val (.string (X++(strOfNums [(k:Int)+1]))),
          .val (.string T),
          .val (.string (X++(strOfNums [(k:Int)+1])++T)),
          .val (.string (strOfNums (mBlk F Tl (k+1)))),
          .val (.string (strOfNums (mBlk F Tl (k+1))))] [[9],[10],[62,63],[12],[65],[66],[67],[64,68],[8],[69,70],[71],[72]] (fun f=> [(some 62,.string (strOfNums F)),(some 63,.string (strOfNums (mBlk F Tl k))),(some 64,.string X),(some 65,.int .i64 ((k:Int)+1)),(some 66,.int .u8 ((k:Int)+1)),(some 67,.slice (some ⟨f 5,0,none⟩) 1 1),(some 68,.string (strOfNums [(k:Int)+1])),(some 69,.string (X++(strOfNums [(k:Int)+1]))),(some 70,.string T),(some 71,.string (X++(strOfNums [(k:Int)+1])++T)),(some 72,.string (strOfNums (mBlk F Tl (k+1)))),(some 10,.string (strOfNums (mBlk F Tl (k+1))))]) (by kernel_rfl) (by kernel_rfl) (by kernel_rfl) (by kernel_rfl) (fun _=>by kernel_rfl) ?_ ?_
      · intro ix hix
        match ix,hix with
        |0,_=>exact obv [(9,.string (strOfNums F))] rfl rfl (fun A w ⟨e0,_⟩ hB=>doS_move e0)
        |1,_=>exact obv [(10,.string (strOfNums (mBlk F Tl k)))] rfl rfl (fun A w ⟨e0,_⟩ hB=>doS_move e0)
        |2,_=>exact obv [(62,.string (strOfNums F)),(63,.string (strOfNums (mBlk F Tl k)))] rfl rfl (fun A w ⟨e0,e1,_⟩ hB=>doS_call2 cf_both e0 e1 (B w))
        |3,_=>exact obv [(12,.int .i64 ((k:Int)+1))] rfl rfl (fun A w ⟨e0,_⟩ hB=>doS_move e0)
        |4,_=>exact obv [(65,.int .i64 ((k:Int)+1))] rfl rfl (fun A w ⟨e0,_⟩ hB=>doS_c8 e0 e8)
        |5,_=>exact ob_slc 1 [(66,.int .u8 ((k:Int)+1))] rfl rfl (fun _=>by kernel_rfl) (fun A w ⟨e0,_⟩=>doS_slc1 e0)
        |6,_=>exact ob_use 67 5 1001 (.cells #[.int .u8 ((k:Int)+1)] 5) (fun f=> [(67,.slice (some ⟨f 5,0,none⟩) 1 1)]) rfl rfl (by decide) (by kernel_rfl) rfl (fun _=>by kernel_rfl) (fun f A w ⟨e0,_⟩ hB hr=>doS_conv e0 rfl (fun i h=>conv1 hr i h))
        |7,_=>exact obv [(64,.string X),(68,.string (strOfNums [(k:Int)+1]))] rfl rfl (fun A w ⟨e0,e1,_⟩ hB=>doS_cat e0 e1 q1)
        |8,_=>exact obv [(8,.string T)] rfl rfl (fun A w ⟨e0,_⟩ hB=>doS_move e0)
        |9,_=>exact obv [(69,.string (X++(strOfNums [(k:Int)+1]))),(70,.string T)] rfl rfl (fun A w ⟨e0,e1,_⟩ hB=>doS_cat e0 e1 q2)
        |10,_=>exact obv [(71,.string (X++(strOfNums [(k:Int)+1])++T))] rfl rfl (fun A w ⟨e0,_⟩ hB=>doS_call1 cf_sha e0 (SB w))
        |11,_=>exact obv [(72,.string (strOfNums (mBlk F Tl (k+1))))] rfl rfl (fun A w ⟨e0,_⟩ hB=>doS_assign e0)
        |ix+12,h=>exact absurd h (by simp)
      intro f W3 hb3 _ _;have R2:Bl w W3:=hbl.trans ((Below.refl _ wr).drew.trans hb3|>.mono hsr);simp only [puts,List.foldl,Act.put,List.setIfInBounds_toArray,List.set_cons_zero,List.set_cons_succ];clear hb3 B SB q1 q2;go_wp2;go_roundw
      case rel=>
        have R:Value.string (strOfNums (mOut F Tl k)++strOfNums (mBlk F Tl (k+1)))=Value.string (strOfNums (mOut F Tl (k+1))):=by rw [ho1.out]
        first
          |exact ⟨k+1,by omega,by go_num,rfl,R,R2⟩
          |((repeat apply Exists.intro);exact⟨⟨k+1,by omega,by go_num,rfl,R,R2⟩,rfl⟩)
      case measure=>simp [intOf];omega
    · have hkk:k=(n+31)/32:=by omega
      have hres:Hid ((strOfNums (mOut F Tl k)).extract 0 n=strOfNums E):=by
        simp only [Hid];rw [str_take,hE.out,←hkk]
      clear hkk;go_wp2;go_ret2;refine⟨?_,hbl⟩;show Ending.returned (.tuple #[.string ((strOfNums (mOut F Tl k)).extract 0 n),.bool true])=_;rw [hres.out]
theorem ret_u64 {a b:Int}(h:a=b):Ending.returned (int u64 a)= .returned (int u64 b):=by rw [h]
theorem l2add_any (a b m:Nat)(w:World)(ha:a<m)(hb:b<m)(hm:m<18446744073709551616):
    Calls prog 64 #[int u64 a,int u64 b,int u64 m] w fun e w'=>e= .returned (int u64 ((a+b)%m:Nat))∧w=w':=by
  by_cases h:m-b≤a
  · have e:((a+b)%m:Nat)=a-(m-b):=by
      have:a+b=(a-(m-b))+m:=by omega
      rw [this,Nat.add_mod_right,Nat.mod_eq_of_lt (by omega)]
    rw [e];clear e;go_enter func64,ntmps64;go_wp2;go_ret;exact⟨ret_u64 (by omega),rfl⟩
  · have e:((a+b)%m:Nat)=a+b:=Nat.mod_eq_of_lt (by omega);rw [e];clear e;go_enter func64,ntmps64;go_wp2;go_ret;exact⟨ret_u64 (by omega),rfl⟩
theorem l2add_int (x y:Int)(a b m:Nat)(hx:x=a)(hy:y=b)(w:World)(ha:a<m)(hb:b<m)(hm:m<18446744073709551616):
    Calls prog 64 #[int u64 x,int u64 y,int u64 m] w fun e w'=>e= .returned (int u64 ((a+b)%m:Nat))∧w=w':=by
  subst hx hy;exact l2add_any a b m w ha hb hm
theorem shr_succ (b j:Nat):b/2^j=2*(b/2^(j+1))+b/2^j%2:=by
  have:b/2^(j+1)=b/2^j/2:=by rw [Nat.pow_succ,Nat.div_div_eq_div_mul]
  omega
theorem bit_tmod (B j:Nat):((B:Int)/2^j).tmod 2=((B/2^j%2:Nat):Int):=by
  have e:(B:Int)/2^j=((B/2^j:Nat):Int):=by simp
  rw [e,Int.tmod_eq_emod_of_nonneg (Int.natCast_nonneg _)];generalize B/2^j=z;omega
theorem bit1 (x:Int)(B j:Nat)(hx:x=B)(h:B/2^j%2=1):((x/2^j).tmod 2==1)=true:=by
  rw [hx,bit_tmod,h];rfl
theorem bit0 (x:Int)(B j:Nat)(hx:x=B)(h:B/2^j%2=0):((x/2^j).tmod 2==1)=false:=by
  rw [hx,bit_tmod,h];rfl
def numL (l:List Int):Nat:=l.foldl (fun r x=>r*256+x.toNat) 0
theorem numL_snoc (l:List Int)(x:Int):numL (l++ [x])=numL l*256+x.toNat:=by simp [numL]
theorem byt_take (s:ByteArray)(k:Nat)(h:k<s.size):(byt s).take (k+1)=(byt s).take k++ [(s[k].toNat:Int)]:=by
  rw [List.take_succ_eq_append_getElem (by rw [byt_length];exact h)];simp [byt];rfl
theorem numL_take (s:ByteArray)(k:Nat)(h:k<s.size):numL ((byt s).take (k+1))=numL ((byt s).take k)*256+s[k].toNat:=by
  rw [byt_take s k h,numL_snoc];simp
end Go.Proofs.YtmjniccfjffclaaGreatDoor
