import Derived.Lib.BitFns
import Derived.Lib.Mul64
import Derived.Test.YtjhbckngdclleaaGreatDoorMrg8
set_option linter.unusedVariables false
set_option maxRecDepth 100000
set_option maxHeartbeats 16000000
namespace Go.Proofs.YtjhbckngdclleaaGreatDoor
open Go.Proofs.Tryz Go.RowKit
open Go.Value (int)
open Go.IntKind (u64)
namespace Dv
theorem or_add (h t s:Nat)(ht:t<2^s):h*2^s|||t=h*2^s+t:=by
  rw [Nat.mul_comm,Nat.two_pow_add_eq_or_of_lt ht]
end Dv
theorem orN (a b:Nat)(ha:a<18446744073709551616)(hb:b<18446744073709551616):bits .or .u64 (a:Int) (b:Int)=((a|||b:Nat):Int):=bits_or_u64_nat a b ha hb
theorem or_byte (z:Nat)(v:UInt8):bits .or .u64 (IntKind.u64.wrap ((z:Int)*256)) ((v.toNat:Nat):Int)=((z*256%18446744073709551616+v.toNat:Nat):Int):=by
  have hv:=v.toNat_lt;have e:IntKind.u64.wrap ((z:Int)*256)=((z*256%18446744073709551616:Nat):Int):=by rw [IntKind.wrap_u64];omega
  rw [e,orN _ _ (Nat.mod_lt _ (by decide)) (by omega)];have e2:z*256%18446744073709551616=z%72057594037927936*2^8:=by omega
  rw [e2,Dv.or_add _ _ 8 (by omega)]
theorem putI_any (n:Nat)(w:World)(hn:n<18446744073709551616):
    Cr 121 #[int u64 n] w (.string (strOfNums (be8 n))):=by
  have L:=fun w=>beI_any (n:Int) 8 w (by omega) (by omega) (by omega) (by omega)
  rw [beTo8] at L;clear hn;go_enter func121,ntmps121;go_wp2_with fail;refine(L _).mono ?_;rintro e w' ⟨rfl,hb⟩;go_wp2;go_ret;exact⟨rfl,hb⟩
section
attribute [local go_sem ↓] Go.wp_at_zero Go.wp_at_succ
theorem infoU32:(prog.info? 177).map (fun i=>(i.zero,i.size,i.bytes))=some (some (.int .u32 0),1,4):=by kernel_rfl
theorem infoU8:(prog.info? 5).map (fun i=>(i.zero,i.size,i.bytes))=some (some (.int .u8 0),1,1):=by kernel_rfl
theorem schedS_any (g cap n:Nat)(m:List Int)(fr:Nat)(w:World)(hm:∀i,i<n→w.cell? ⟨g,i,none⟩=some (.int .u8 (lk m i)))
    (hb:∀i,0≤lk m i∧lk m i<256)(hn:n≤1099511627776)(hf:fr+64≤n)(hg:g<w.heap.size):
    Calls prog 185 #[.slice (some ⟨g,0,none⟩) n cap,.int .i64 fr] w fun e w'=>
      ∃g' cap',e= .returned (.slice (some ⟨g',0,none⟩) 64 cap')∧
      w'.ownsRow w.heap.size 177 1 (.slice (some ⟨g',0,none⟩) 64 cap') 64 ((wsTo m fr 64).map (Value.int .u32))∧Bl w w':=by
  obtain⟨i0,hi,hz0,hz1,hz2⟩:=info_parts infoU32;go_enter func185,ntmps185;go_wp2
  go_loopw [5,6] (fun v i wr=>∃k:Nat,k≤16∧i= .int .i64 k∧wr.ownsRow w.heap.size 177 1 v k ((wsTo m fr k).map (Value.int .u32))∧Bl w wr) (fun _ i _=>16-(intOf i).toNat)
  case atStart=>exact ⟨0,by omega,rfl,⟨rfl,.inr ⟨w.heap.size,0,#[],rfl,Nat.le_refl _,heap_alloc_new _ _,by omega,by decide,rfl,rfl⟩⟩,(Below.refl _ _).alloc (Nat.le_refl _) _⟩
  case round =>
    obtain⟨k,hk,rfl,hown,hbl⟩:=hrel;by_cases hlt:k<16
    · obtain ⟨p,hp⟩:∃p:Nat,p=fr+4*k:=⟨_,rfl⟩;have hp':(fr:Int)+4*(k:Int)=(p:Int):=by omega
      have c0:=(hbl.cell (p:=⟨g,p,none⟩) hg).trans (hm p (by omega));have c1:=(hbl.cell (p:=⟨g,p+1,none⟩) hg).trans (hm (p+1) (by omega));have c2:=(hbl.cell (p:=⟨g,p+2,none⟩) hg).trans (hm (p+2) (by omega));have c3:=(hbl.cell (p:=⟨g,p+3,none⟩) hg).trans (hm (p+3) (by omega));have b0:=hb p;have b1:=hb (p+1);have b2:=hb (p+2);have b3:=hb (p+3)
      have hnb:u5.ownBlock≠some g:=by
        rcases hown.2 with ⟨rfl,_⟩|⟨g1,cap1,cur,rfl,hg1,_⟩
        · simp [Value.ownBlock]
        · simp only [Value.ownBlock,ne_eq,Option.some.injEq];omega
      have hgr:g<wr.heap.size:=Nat.lt_of_lt_of_le hg hbl.size;have hszr:w.heap.size≤wr.heap.size:=hbl.size;have q0:(0:Int)≤(p:Int):=Int.natCast_nonneg _;have q1:(p:Int)<(n:Int):=by omega
      have q2:(p:Int)+1<(n:Int):=by omega
      have q3:(p:Int)+2<(n:Int):=by omega
      have q4:(p:Int)+3<(n:Int):=by omega
      have q5:(0:Int)≤(p:Int)+1:=by omega
      have q6:(0:Int)≤(p:Int)+2:=by omega
      have q7:(0:Int)≤(p:Int)+3:=by omega
      have e1:=i64_in ((p:Int)+1) (by omega) (by omega);have e2:=i64_in ((p:Int)+2) (by omega) (by omega);have e3:=i64_in ((p:Int)+3) (by omega) (by omega);have f0:=u32_in (lk m p) (by omega) (by omega);have f1:=u32_in (lk m (p+1)) (by omega) (by omega);have f2:=u32_in (lk m (p+2)) (by omega) (by omega);have f3:=u32_in (lk m (p+3)) (by omega) (by omega);have f4:=u32_in (lk m p*16777216) (by omega) (by omega);have f5:=u32_in (lk m (p+1)*65536) (by omega) (by omega);have f6:=u32_in (lk m (p+2)*256) (by omega) (by omega);have t1:((p:Int)+1).toNat=p+1:=by omega
      have t2:((p:Int)+2).toNat=p+2:=by omega
      have t3:((p:Int)+3).toNat=p+3:=by omega
      have Hp:Hid (p=fr+4*k):=hp;have hpn:p+64≤n+4*k:=by omega
      clear hp;go_wp2
      go_region_held3 (fun w'=>w'.cell? ⟨g,p,none⟩=some (.int .u8 (lk m p))∧w'.cell? ⟨g,p+1,none⟩=some (.int .u8 (lk m (p+1)))∧
          w'.cell? ⟨g,p+2,none⟩=some (.int .u8 (lk m (p+2)))∧w'.cell? ⟨g,p+3,none⟩=some (.int .u8 (lk m (p+3))))
        (first
          |go_keep
          | (go_split_ands
             refine⟨?_,?_,?_,?_⟩
             · (rw [hgrow.cell_far _ (by simp;omega) (Ne.symm hnb)];assumption)
             · (rw [hgrow.cell_far _ (by simp;omega) (Ne.symm hnb)];assumption)
             · (rw [hgrow.cell_far _ (by simp;omega) (Ne.symm hnb)];assumption)
             · (rw [hgrow.cell_far _ (by simp;omega) (Ne.symm hnb)];assumption)))
        ((refine step_append_lies _ (by rfl) _ _ _ (by rfl) w.heap.size 177 i0 _ 1 4 underlying232 hi hz0 hz1 hz2 rfl (by omega) u5 k ((wsTo m fr k).map (Value.int .u32)) (by rfl) ((hown.alloc _).drew)
            ⟨wr.heap.size,0,none⟩ 1 1 [.int .u32 (word m p)] (by rfl) (by rfl) (World.news_of_block (cs:=#[.int .u32 (word m p)]) (t:=177) (fr:=(0,0)) (heap_alloc_new wr _)) (by simp [Value.oneCell'])
            (by omega) (by unfold maxLen;omega) (by omega) (by simp;omega) (wr.heap.size+1) (by simp) ?_;intro gg cap w1 hown1 hgrow hat hglt))
      go_wp2;refine⟨⟨k+1,by omega,by go_num,?_,?_⟩,by simp [intOf];omega⟩
      · rw [wsTo_lo m fr k hlt,←Hp.out];exact hown1
      · exact(((hbl.alloc hszr _).drew).grown hgrow (by simp;omega) (fun r hr=>(hown.lt r hr).1))
    · obtain rfl:k=16:=by omega
      go_wp2
      go_loopw [5,8] (fun v i wr=>∃k:Nat,16≤k∧k≤64∧i= .int .i64 k∧wr.ownsRow w.heap.size 177 1 v k ((wsTo m fr k).map (Value.int .u32))∧Bl w wr) (fun _ i _=>64-(intOf i).toNat)
      case atStart=>exact ⟨16,by omega,by omega,rfl,hown,hbl⟩
      case round=>
        clear hown hbl;obtain⟨k,hk16,hk,rfl,hown,hbl⟩:=hrel;by_cases hlt:k<64
        · obtain⟨g1,cap1,rfl,hg1,hlt1⟩:=hown.form (by omega);have c15:=own_cell hown (k-15) (by omega);have c2:=own_cell hown (k-2) (by omega);have c16:=own_cell hown (k-16) (by omega);have c7:=own_cell hown (k-7) (by omega);have b15:=wsTo_lo32 m fr k (k-15);have b2:=wsTo_lo32 m fr k (k-2);have b16:=wsTo_lo32 m fr k (k-16);have b7:=wsTo_lo32 m fr k (k-7);go_wp2_with (go_at_call 186;refine(turn_any _ _ _ (by omega) (by omega) (by omega) (by omega)).mono ?_;rintro e w' ⟨rfl,rfl⟩);have hszr:w.heap.size≤wr.heap.size:=hbl.size;have hn1:g1≠wr.heap.size:=by omega
          have q0:(0:Int)≤(k:Int)-16:=by omega
          have q1:(k:Int)-16<(k:Int):=by omega
          have q2:(0:Int)≤(k:Int)-7:=by omega
          have q3:(k:Int)-7<(k:Int):=by omega
          have q4:(16:Int)≤(k:Int):=by omega
          have q5:(7:Int)≤(k:Int):=by omega
          have e1:=i64_in ((k:Int)-16) (by omega) (by omega);have e2:=i64_in ((k:Int)-7) (by omega) (by omega);have t1:((k:Int)-16).toNat=k-16:=by omega
          have t2:((k:Int)-7).toNat=k-7:=by omega
          have hL16:=own_get hown (k-16) (by omega);have hL7:=own_get hown (k-7) (by omega)
          go_region_held3 (fun w'=>w'.cell? ⟨g1,k-16,none⟩=some (.int .u32 (lk (wsTo m fr k) (k-16)))∧w'.cell? ⟨g1,k-7,none⟩=some (.int .u32 (lk (wsTo m fr k) (k-7))))
            (first
              |go_keep
              |exact ⟨hkeep _ _ hL16,hkeep _ _ hL7⟩)
            ((refine step_append_keeps (by rfl) _ _ _ (by rfl) w.heap.size 177 i0 _ 4 underlying232 hi hz0 hz1 hz2 rfl g1 k cap1 ((wsTo m fr k).map (Value.int .u32)) (by rfl) ((hown.alloc _).drew)
                ⟨wr.heap.size,0,none⟩ 1 1 [.int .u32 (nextw (wsTo m fr k) k)] (by rfl) (by rfl) (World.news_of_block (cs:=#[.int .u32 (nextw (wsTo m fr k) k)]) (t:=177) (fr:=(0,0)) (heap_alloc_new wr _)) (by simp [Value.oneCell'])
                (by omega) (by unfold maxLen;omega) (by omega) (by simp;omega) (wr.heap.size+1) (by simp) ?_;intro gg cap w1 hown1 hgrow hat hglt hkeep))
          go_wp2;go_roundw
          case rel=>
            have R1:w1.ownsRow w.heap.size 177 1 (.slice (some ⟨gg,0,none⟩) (k+1) cap) (k+1) ((wsTo m fr (k+1)).map (Value.int .u32)):=by
              rw [wsTo_hi m fr k hk16];exact hown1
            have R2:Bl w w1:=(((hbl.alloc hszr _).drew).grown hgrow (by simp;omega) (fun r hr=>by simp at hr;omega))
            first
              |exact ⟨k+1,by omega,by omega,by go_num,R1,R2⟩
              |((repeat apply Exists.intro);exact⟨⟨k+1,by omega,by omega,by go_num,R1,R2⟩,rfl⟩)
          case measure=>simp [intOf];omega
        · obtain rfl:k=64:=by omega
          obtain⟨g1,cap1,rfl,hg1,hlt1⟩:=hown.form (by omega);go_wp2;go_ret;exact⟨g1,cap1,rfl,hown,hbl⟩
end
end Go.Proofs.YtjhbckngdclleaaGreatDoor
