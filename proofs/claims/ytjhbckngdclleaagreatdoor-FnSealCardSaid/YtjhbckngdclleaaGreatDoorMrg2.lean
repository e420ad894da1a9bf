import Derived.Test.YtjhbckngdclleaaGreatDoorMrg1
set_option linter.unusedVariables false
set_option maxRecDepth 100000
set_option maxHeartbeats 16000000
namespace Go.Proofs.YtjhbckngdclleaaGreatDoor
open Go.Proofs.Tryz Go.RowKit
open Go.Value (int)
open Go.IntKind (u64)
theorem rot_any (x k n:Int)(w:World)(h0:0≤x)(h1:x<4294967296)(hk: -32<k)(hk':k<0)(hn:n= -k):
    Calls prog 229 #[.int .u32 x,.int .i64 k] w fun e w'=>e= .returned (.int .u32 (rotr x n))∧w=w':=by
  have e:=mask31 k hk hk';obtain⟨m,rfl⟩:∃m:Int,k= -m:=⟨-k,by omega⟩;have e':bits BinOp.and IntKind.u64 (IntKind.u64.wrap (-m)) 31=32-m:=by rw [e];omega
  have hn2:Hid (n=m):=by rw [hn];simp [Hid]
  clear e hn;go_enter func229,ntmps229;go_wp2;go_ret;have e2:(32:Int)-(32-m)=m:=by omega
  refine⟨ret_int (k:= .u32) ?_,rfl⟩;rw [hn2.out,e2,or_comm32];rfl
section
attribute [local go_sem ↓] Go.wp_at_zero Go.wp_at_succ
theorem size61:(prog.info? 314).map (·.size)=some 64:=by kernel_rfl
theorem size41:(prog.info? 179).map (·.size)=some 64:=by kernel_rfl
def zeroWs:List Value:=(List.replicate 64 (0:Int)).map (Value.int .u32)
theorem zero61 (w:World):(zeroValue 314).run prog w= .ok (.agg zeroWs.toArray) w:=by kernel_rfl
theorem len41:prog.arrayLen 179=64:=by kernel_rfl
theorem elem41:prog.elem 179=5:=by kernel_rfl
theorem sizeOf5 (w:World):(sizeOf 5).run prog w= .ok 1 w:=by kernel_rfl
theorem slice41 (b o:Nat)(l h:Nat)(hlh:l≤h)(hl:l<64)(hh:h≤64)(w:World):
    (Instr.sliceAt 179 (.pointer (some ⟨b,o,none⟩)) (some (.int .i64 (l:Int))) (some (.int .i64 (h:Int))) none).run prog w= .ok (.slice (some ⟨b,o+l,none⟩) (h-l) (64-l)) w:=by
  rw [run_sliceAt_array_lh w 179 ⟨b,o,none⟩ (by kernel_rfl) .i64 .i64 (l:Int) (h:Int) (by omega) (by omega) (by rw [len41];omega),elem41,sizeOf5];simp only [Result.andThen,slicedAt,Int.toNat_natCast,len41,Nat.mul_one,Addr.add_mid];rw [if_neg (by omega)]
theorem slice41_all (b o:Nat)(w:World):
    (Instr.sliceAt 179 (.pointer (some ⟨b,o,none⟩)) none none none).run prog w= .ok (.slice (some ⟨b,o,none⟩) 64 64) w:=by
  rw [run_sliceAt_array_all w 179 ⟨b,o,none⟩ (by kernel_rfl),elem41,sizeOf5];simp only [Result.andThen,slicedAt,len41,Nat.mul_one,Addr.add_mid];rw [if_neg (by omega)];simp
theorem slice41_from (b o:Nat)(l:Nat)(hl:l<64)(w:World):
    (Instr.sliceAt 179 (.pointer (some ⟨b,o,none⟩)) (some (.int .i64 (l:Int))) none none).run prog w= .ok (.slice (some ⟨b,o+l,none⟩) (64-l) (64-l)) w:=by
  rw [run_sliceAt_array_l w 179 ⟨b,o,none⟩ (by kernel_rfl) .i64 (l:Int) (by omega) (by rw [len41];omega),elem41,sizeOf5];simp only [Result.andThen,slicedAt,Int.toNat_natCast,len41,Nat.mul_one,Addr.add_mid];rw [if_neg (by omega)]
theorem cell_set_far {w:World}{b i j:Nat}(v:Value){u:Value}(h: ¬ i=j)(hc:w.cell? ⟨b,j,none⟩=some u):(w.setCell ⟨b,i,none⟩ v).drew.cell? ⟨b,j,none⟩=some u:=by
  show(w.setCell ⟨b,i,none⟩ v).cell? ⟨b,j,none⟩=some u;rw [World.cell?_setCell_other _ _ _ _ (fun he=>h (congrArg Addr.off he))];exact hc
structure SchedW (w:World)(blk ws:List Int)(wr:World):Prop where
  below:Bl w wr
  size:wr.heap.size=w.heap.size+3
  bytes:∀i,i<64→wr.cell? ⟨w.heap.size,i,none⟩=some (.int .u8 (lk blk i))
  res:wr.there (w.heap.size+1) 0 64
  row:Row wr w.heap.size (w.heap.size+1+1) 64 64 (ws.map (Value.int .u32))
theorem SchedW.start (w:World)(blk:List Int)(hl:blk.length=64)(t1 t2:TypeId):SchedW w blk (List.replicate 64 0)
    (((w.alloc (Obj.cells (List.map (Value.int IntKind.u8) blk).toArray t1)).alloc (Obj.cells zeroWs.toArray t2)).alloc (Obj.cells zeroWs.toArray t2)):=by
  have hzl:zeroWs.toArray.size=64:=by decide
  have hzt:zeroWs.toArray.toList.take 64=(List.replicate 64 (0:Int)).map (Value.int .u32):=rfl;refine⟨(((Below.refl _ _).alloc (Nat.le_refl _) _).alloc (by simp) _).alloc (by simp;omega) _,by simp,fun i h64=> ?_,?_,?_⟩
  · rw [World.cell?_alloc_lt _ _ _ (by simp;omega),World.cell?_alloc_lt _ _ _ (by simp),cell_of_row _ _ _ _ _ _ (heap_alloc_new w _)];simp only [List.getElem?_toArray,List.getElem?_map];rw [List.getElem?_eq_getElem (by omega)];unfold lk;rw [List.getD_eq_getElem?_getD,List.getElem?_eq_getElem (by omega)];rfl
  · have:=World.there_alloc (there_new (w.alloc (Obj.cells (List.map (Value.int IntKind.u8) blk).toArray t1)) zeroWs.toArray t2 64 (by rw [hzl];omega)) (Obj.cells zeroWs.toArray t2);simpa using this
  · have hnew:=heap_alloc_new ((w.alloc (Obj.cells (List.map (Value.int IntKind.u8) blk).toArray t1)).alloc (Obj.cells zeroWs.toArray t2)) (Obj.cells zeroWs.toArray t2);simp only [World.size_alloc] at hnew;have:=Row.of_block (base:=w.heap.size) (n:=64) hnew (by omega) (by rw [hzl];omega) (by rw [hzl];unfold maxLen;omega);rw [hzt,hzl] at this;exact this
theorem SchedW.set {w:World}{blk ws:List Int}{wr:World}(F:SchedW w blk ws wr)(i:Nat)(hi:i<64)(x:Int):SchedW w blk (ws.set i x) (wr.setCell ⟨w.heap.size+1+1,i,none⟩ (.int .u32 x)):=by
  refine⟨F.below.setCell (by simp;omega) _,by simpa using F.size,fun j hj=> ?_,fun j hj=> ?_,?_⟩
  · rw [World.cell?_setCell_other _ _ _ _ (fun he=>by have:=congrArg Addr.block he;simp at this;omega)];exact F.bytes j hj
  · rw [World.cell?_setCell_other _ _ _ _ (fun he=>by have:=congrArg Addr.block he;simp at this),World.frozen?_setCell];exact F.res j hj
  · rw [List.map_set];exact F.row.set i hi _
theorem SchedW.drewN {w:World}{blk ws:List Int}{wr:World}(F:SchedW w blk ws wr)(n:Nat):SchedW w blk ws (wr.drewN n):=
  ⟨below_drewN F.below n,F.size,F.bytes,F.res,F.row.same rfl (Nat.le_refl _)⟩
theorem SchedW.drew {w:World}{blk ws:List Int}{wr:World}(F:SchedW w blk ws wr):SchedW w blk ws wr.drew:=
  ⟨F.below.drew,F.size,F.bytes,F.res,F.row.drew⟩
theorem schedI_any (blk:List Int)(hl:blk.length=64)(hb:∀i,0≤lk blk i∧lk blk i<256)(w:World):
    Cr 228 #[.agg (blk.map (Value.int .u8)).toArray] w (.agg ((wsTo blk 0 64).map (Value.int .u32)).toArray):=by
  have hz:=zero61;go_enter func228,ntmps228;go_wp2;obtain⟨W0,hW0⟩:∃W0,W0=((w.alloc (Obj.cells (List.map (Value.int IntKind.u8) blk).toArray 179)).alloc (Obj.cells zeroWs.toArray 314)).alloc (Obj.cells zeroWs.toArray 314):=⟨_,rfl⟩;have F0:SchedW w blk (List.replicate 64 0) W0:=by rw [hW0];exact SchedW.start w blk hl _ _
  rw [←hW0];clear hW0 hz
  go_loopw [12] (fun c wr=>∃k:Nat,k≤16∧c= .int .i64 k∧SchedW w blk (wsTo blk 0 k++List.replicate (64-k) 0) wr) (fun c _=>16-(intOf c).toNat)
  case atStart=>exact ⟨0,by omega,rfl,F0⟩
  case round=>
    clear F0;obtain⟨k,hk,rfl,F⟩:=hrel;by_cases hlt:k<16
    · have hsl:∀wx,(Instr.sliceAt 179 (.pointer (some ⟨w.heap.size,0,none⟩)) (some (.int .i64 (4*(k:Int)))) (some (.int .i64 (4*(k:Int)+4))) none).run prog wx= .ok (.slice (some ⟨w.heap.size,4*k,none⟩) 4 (64-4*k)) wx:=fun wx=>by
        have:=slice41 w.heap.size 0 (4*k) (4*k+4) (by omega) (by omega) (by omega) wx;rw [show ((4*k:Nat):Int)=4*(k:Int) by omega,show ((4*k+4:Nat):Int)=4*(k:Int)+4 by omega,Nat.zero_add,show 4*k+4-4*k=4 by omega] at this;exact this
      go_wp2
      go_loopw [22] (fun c wr=>∃j:Nat,j≤4∧c= .int .i64 j∧SchedW w blk (wsTo blk 0 k++accTo blk (4*k) j::List.replicate (64-(k+1)) 0) wr) (fun c _=>4-(intOf c).toNat)
      case atStart=>
        refine⟨0,by omega,rfl,?_⟩;rw [show List.replicate (64-k) (0:Int)=0::List.replicate (64-(k+1)) 0 by rw [←List.replicate_succ];congr 1;omega] at F;exact F
      case round=>
        clear F hsl;obtain⟨j,hj,rfl,F⟩:=hrel;by_cases hltj:j<4
        · have hcb:=F.bytes (4*k+j) (by omega);have hbb:=hb (4*k+j);have hcw:=F.row.cell k (by omega);rw [lk_mid _ _ _ _ (wsTo_length blk 0 k)] at hcw;have hfz:=(F.row.room k (by omega)).2;have hab:=accTo_lo blk (4*k) j;have hacc:Hid (accTo blk (4*k) (j+1)=bits BinOp.or IntKind.u32 (accTo blk (4*k) j*256%4294967296) (lk blk (4*k+j))):=rfl;have hk0:(k:Int)<64:=by omega
          generalize accTo blk (4*k) j=acc at*;go_wp2;go_roundw
          case rel=>
            have R:=F.set k (by omega) (bits BinOp.or IntKind.u32 (acc*256%4294967296) (lk blk (4*k+j)));rw [set_at _ _ _ _ _ (wsTo_length blk 0 k)] at R
            first
              |exact ⟨j+1,by omega,by go_num,by rw [hacc.out];exact R⟩
              |((repeat apply Exists.intro);exact⟨⟨j+1,by omega,by go_num,by rw [hacc.out];exact R⟩,rfl⟩)
          case measure=>simp [intOf];omega
        · obtain rfl:j=4:=by omega
          go_wp2;go_roundw
          case rel=>
            have R:=F;rw [accTo4 blk (4*k) hb,cons_snoc,show word blk (4*k)=word blk (0+4*k) by rw [Nat.zero_add],←wsTo_at blk 0 k hlt] at R
            first
              |exact ⟨k+1,by omega,by go_num,R⟩
              |((repeat apply Exists.intro);exact⟨⟨k+1,by omega,by go_num,R⟩,rfl⟩)
          case measure=>simp [intOf];omega
    · obtain rfl:k=16:=by omega
      go_wp2
      go_loopw [7] (fun c wr=>∃k:Nat,16≤k∧k≤64∧c= .int .i64 k∧SchedW w blk (wsTo blk 0 k++List.replicate (64-k) 0) wr) (fun c _=>64-(intOf c).toNat)
      case atStart=>exact ⟨16,by omega,by omega,rfl,F⟩
      case round=>
        clear F;obtain⟨k,hk16,hk64,rfl,F⟩:=hrel;by_cases hlt:k<64
        · have hlen:=wsTo_length blk 0 k;have g15:=F.row.cell (k-15) (by omega);have g2:=F.row.cell (k-2) (by omega);have g16:=F.row.cell (k-16) (by omega);have g7:=F.row.cell (k-7) (by omega);rw [lk_append_lt _ _ _ (by omega)] at g15 g2 g16 g7;obtain⟨hsome,hfz⟩:=F.row.room k (by omega);obtain⟨v0,hc0⟩:=Option.isSome_iff_exists.1 hsome;have b15:=wsTo_lo32 blk 0 k (k-15);have b2:=wsTo_lo32 blk 0 k (k-2);have b16:=wsTo_lo32 blk 0 k (k-16);have b7:=wsTo_lo32 blk 0 k (k-7);have q4:(16:Int)≤(k:Int):=by omega
          have q5:(k:Int)<64:=by omega
          have q6:(15:Int)≤(k:Int):=by omega
          have q7:(2:Int)≤(k:Int):=by omega
          have q8:(7:Int)≤(k:Int):=by omega
          clear hlen hsome;go_wp2;go_quiet (fail);go_wp2_with (go_at_call 229;refine(rot_any _ _ _ _ (by omega) (by omega) (by omega) (by omega) rfl).mono ?_;rintro e w' ⟨rfl,rfl⟩);have F2:=F.drewN nq;clear g15 g2 g16 g7 hc0 hfz F;generalize wr.drewN nq=wd at*;have g16:=F2.row.cell (k-16) (by omega);have g7:=F2.row.cell (k-7) (by omega);rw [lk_append_lt _ _ _ (by rw [wsTo_length];omega)] at g16 g7;obtain⟨hsome,hfz⟩:=F2.row.room k (by omega);obtain⟨v1,hc1⟩:=Option.isSome_iff_exists.1 hsome;clear hsome;have e1:=i64_in ((k:Int)-16) (by omega) (by omega);have e2:=i64_in ((k:Int)-7) (by omega) (by omega);have t1:((k:Int)-16).toNat=k-16:=by omega
          have t2:((k:Int)-7).toNat=k-7:=by omega
          have q9:(k:Int)-16<64:=by omega
          have q10:(k:Int)-7<64:=by omega
          have q11:(0:Int)≤(k:Int):=by omega
          have n1: ¬ (k=k-16):=by omega
          have n2: ¬ (k=k-7):=by omega
          go_region_held3 (fun w'=>w'.cell? ⟨w.heap.size+1+1,k-16,none⟩=some (.int .u32 (lk (wsTo blk 0 k) (k-16)))∧w'.cell? ⟨w.heap.size+1+1,k-7,none⟩=some (.int .u32 (lk (wsTo blk 0 k) (k-7))))
            (first|exact ⟨cell_set_far _ n1 g16,cell_set_far _ n2 g7⟩|go_keep) (fail)
          go_wp2;go_roundw
          case rel=>
            have R:=(F2.set k (by omega) (nextw (wsTo blk 0 k) k)).drew;rw [set_rep _ _ _ (wsTo_length blk 0 k) hlt,←wsTo_at' blk 0 k hk16] at R
            first
              |exact ⟨k+1,by omega,by omega,by go_num,R⟩
              |((repeat apply Exists.intro);exact⟨⟨k+1,by omega,by omega,by go_num,R⟩,rfl⟩)
          case measure=>simp [intOf];omega
        · obtain rfl:k=64:=by omega
          rw [Nat.sub_self,List.replicate_zero,List.append_nil] at F;have hrg:wr.rangeAt (w.heap.size+1+1) 0 ((wsTo blk 0 64).map (Value.int .u32)):=fun j v hv=>by rw [Nat.zero_add];exact F.row.cells j v hv
          have hlen:((wsTo blk 0 64).map (Value.int .u32)).length=64:=by rw [List.length_map,wsTo_length]
          have hone:∀v∈(wsTo blk 0 64).map (Value.int .u32),v.oneCell'=true:=by
            intro v hv;simp only [List.mem_map] at hv;obtain⟨x,_,rfl⟩:=hv;rfl
          have hres:=F.res;have hbel:=F.below;have hr:=results_mid (P:=prog) (fn:=Tryz.f228) (p:=2) (ty:=314) results228;clear F;generalize hL:(wsTo blk 0 64).map (Value.int .u32)=L at*;have HL:Hid (L=(wsTo blk 0 64).map (Value.int .u32)):=hL.symm;clear hL
          go_wp2_with (first
            |(refine wpList_load_mid rfl 314 _ rfl (w.heap.size+1+1) 0 rfl L _ hrg underlying314 rfl (by rw [size61,hlen]) ?_)
            |(refine wpList_store_mid rfl 314 _ _ rfl (w.heap.size+1) 0 L.toArray rfl rfl (by simpa [hlen] using hres) (by rw [size61];simp [hlen]) (all_oneCell_toArray hone) ?_))
          refine bodyPost_ret (v:= .agg L.toArray) (hr _ _ (w.heap.size+1) 0 L _ rfl (World.rangeAt_setCells_same _ _ _ _ (by rw [hlen];exact hres)) underlying314 rfl (by rw [size61,hlen])) rfl ⟨by rw [HL.out],?_⟩;exact below_setCells hbel (by omega) _ _
end
section
attribute [local go_sem ↓] Go.wp_at_zero Go.wp_at_succ
structure Upd (b o:Nat)(w w':World):Prop where
  os:w'.os=w.os
  tape:w'.tape=w.tape
  output:w'.output=w.output
  size:w.heap.size≤w'.heap.size
  block:∀k,k<w.heap.size→k≠b→w'.heap[k]? =w.heap[k]?
  cell:∀j,(j<o∨o+74≤j)→w'.cell? ⟨b,j,none⟩=w.cell? ⟨b,j,none⟩
  frozen:∀j,w'.frozen? ⟨b,j,none⟩=w.frozen? ⟨b,j,none⟩
  there:∀j,(w.cell? ⟨b,j,none⟩).isSome=true→(w'.cell? ⟨b,j,none⟩).isSome=true
theorem Upd.refl (b o:Nat)(w:World):Upd b o w w:=⟨rfl,rfl,rfl,Nat.le_refl _,fun _ _ _=>rfl,fun _ _=>rfl,fun _=>rfl,fun _ h=>h⟩
theorem Upd.trans {b o:Nat}{u v w:World}(h:Upd b o u v)(k:Upd b o v w):Upd b o u w:=
  ⟨k.os.trans h.os,k.tape.trans h.tape,k.output.trans h.output,Nat.le_trans h.size k.size,fun q hq hne=>(k.block q (Nat.lt_of_lt_of_le hq h.size) hne).trans (h.block q hq hne),
    fun j hj=>(k.cell j hj).trans (h.cell j hj),fun j=>(k.frozen j).trans (h.frozen j),fun j hj=>k.there j (h.there j hj)⟩
theorem Upd.of_below {b o:Nat}{w w':World}(h:Bl w w')(hb:b<w.heap.size):Upd b o w w':=
  ⟨h.os,h.tape,h.output,h.size,fun k hk _=>h.block k hk,fun j _=>h.cell (p:=⟨b,j,none⟩) hb,fun j=>h.frozen (p:=⟨b,j,none⟩) hb,fun j hj=>by rw [h.cell (p:=⟨b,j,none⟩) hb];exact hj⟩
theorem Upd.below {b o B:Nat}{w w':World}(h:Upd b o w w')(hb:B≤b)(hB:B≤w.heap.size):Below B w w':=
  ⟨h.os,h.tape,h.output,h.size,fun k hk=>h.block k (Nat.lt_of_lt_of_le hk hB) (by omega)⟩
theorem Upd.far {b o:Nat}{w w':World}(h:Upd b o w w'){p:Addr}(hp:p.block<w.heap.size)(hne:p.block≠b):w'.cell? p=w.cell? p:=World.cell?_of_block (w:=w) (h.block p.block hp hne)
theorem Upd.ok {b o:Nat}{w w':World}(h:Upd b o w w')(ht:w.there b o 74):w'.there b o 74:=fun j hj=>⟨h.there _ (ht j hj).1,by rw [h.frozen];exact(ht j hj).2⟩
theorem Upd.set {b o:Nat}(w:World)(i:Nat)(v:Value)(hi:o≤i)(hi2:i<o+74):Upd b o w (w.setCell ⟨b,i,none⟩ v):=by
  refine⟨rfl,rfl,rfl,by simp,fun k hk hne=>Below.heap_setCell w _ v k hne,fun j hj=> ?_,fun j=>by rw [World.frozen?_setCell],fun j hj=> ?_⟩
  · rw [World.cell?_setCell_other _ _ _ _ (fun he=>by have:=congrArg Addr.off he;simp only at this;omega)]
  · obtain⟨u,hu⟩:=Option.isSome_iff_exists.1 hj;by_cases e:i=j
    · subst e;rw [World.cell?_setCell_same _ _ _ hu];rfl
    · rw [World.cell?_setCell_other _ _ _ _ (fun he=>e (congrArg Addr.off he))];exact hj
theorem Upd.drew {b o:Nat}{u w:World}(h:Upd b o u w):Upd b o u w.drew:=⟨h.os,h.tape,h.output,h.size,h.block,h.cell,h.frozen,h.there⟩
def TabK (w:World):Prop:=∀i,i<64→w.cell? ⟨6,i,none⟩=some (.int .u32 (lk kTab i))
theorem index61 (ws:List Int)(hl:ws.length=64)(k:Nat)(hk:k<64)(w:World):(Instr.index 314 (.agg (ws.map (Value.int .u32)).toArray) (.int .i64 (k:Int))).run prog w= .ok (.int .u32 (lk ws k)) w:=by
  have hs:∀w,(sizeOf 177).run prog w= .ok 1 w:=fun w=>by kernel_rfl
  have hg:∀w,(isAgg 177).run prog w= .ok false w:=fun w=>by kernel_rfl
  unfold lk;rw [List.getD_eq_getElem?_getD,List.getElem?_eq_getElem (by omega)];simp [Instr.index,asIntOf,run_underlying underlying314,hs,part,hg];rw [if_pos hk,List.getElem?_eq_getElem (by omega)];rfl
theorem index40L (ws:List Int)(hl:ws.length=8)(k:Nat)(hk:k<8)(w:World):(Instr.index 178 (.agg (ws.map (Value.int .u32)).toArray) (.int .i64 (k:Int))).run prog w= .ok (.int .u32 (lk ws k)) w:=by
  have hs:∀w,(sizeOf 177).run prog w= .ok 1 w:=fun w=>by kernel_rfl
  have hg:∀w,(isAgg 177).run prog w= .ok false w:=fun w=>by kernel_rfl
  unfold lk;rw [List.getD_eq_getElem?_getD,List.getElem?_eq_getElem (by omega)];simp [Instr.index,asIntOf,run_underlying underlying178,hs,part,hg];rw [if_pos hk,List.getElem?_eq_getElem (by omega)];rfl
theorem index40 (a b c d e f g z:Int)(k:Nat)(hk:k<8)(w:World):(Instr.index 178 (.agg #[.int .u32 a,.int .u32 b,.int .u32 c,.int .u32 d,.int .u32 e,.int .u32 f,.int .u32 g,.int .u32 z]) (.int .i64 (k:Int))).run prog w= .ok (.int .u32 (lk (stL ⟨a,b,c,d,e,f,g,z⟩) k)) w:=
  index40L (stL ⟨a,b,c,d,e,f,g,z⟩) rfl k hk w
theorem size40:(prog.info? 178).map (·.size)=some 8:=by kernel_rfl
def zeroSt:List Value:=(List.replicate 8 (0:Int)).map (Value.int .u32)
theorem zero40 (w:World):(zeroValue 178).run prog w= .ok (.agg zeroSt.toArray) w:=by kernel_rfl
theorem ints_one (k:IntKind)(l:List Int):∀v∈l.map (Value.int k),v.oneCell'=true:=by
  intro v hv;simp only [List.mem_map] at hv;obtain⟨x,_,rfl⟩:=hv;rfl
theorem range_part {w:World}{b o:Nat}{l m r:List Value}(h:w.rangeAt b o (l++m++r))(n:Nat)(hn:l.length=n):w.rangeAt b (o+n) m:=fun j v hv=>by
  have hj:=(List.getElem?_eq_some_iff.1 hv).1;have:=h (n+j) v (by rw [List.getElem?_append_left (by simp;omega),List.getElem?_append_right (by omega),show n+j-l.length=j by omega];exact hv);rwa [←Nat.add_assoc] at this
theorem range_cell {w:World}{b o:Nat}{k:IntKind}{l:List Int}(h:w.rangeAt b o (l.map (Value.int k)))(i:Nat)(hi:i<l.length):w.cell? ⟨b,o+i,none⟩=some (.int k (lk l i)):=by
  refine h i _ ?_;unfold lk;rw [List.getElem?_map,List.getElem?_eq_getElem hi,List.getD_eq_getElem?_getD,List.getElem?_eq_getElem hi];rfl
theorem rhL_of {w wr:World}{b o:Nat}{st st' blk:List Int}{f z:Int}(hst:st.length=8)(hr:w.rangeAt b o (rhL st blk f z))
    (hc8:∀i,i<8→wr.cell? ⟨b,o+i,none⟩=some (.int .u32 (lk st' i)))(hcr:∀i,8≤i→wr.cell? ⟨b,o+i,none⟩=w.cell? ⟨b,o+i,none⟩)(hst':st'.length=8:=by rfl):wr.rangeAt b o (rhL st' blk f z):=by
  intro j v hv;unfold rhL at hv;rw [List.append_assoc] at hv;by_cases hj:j<8
  · rw [List.getElem?_append_left (by simp;omega),List.getElem?_map,List.getElem?_eq_getElem (by omega)] at hv;rw [hc8 j hj,←hv];unfold lk;rw [List.getD_eq_getElem?_getD,List.getElem?_eq_getElem (by omega)];rfl
  · rw [hcr j (by omega)];refine hr j v ?_;unfold rhL;rw [List.append_assoc,List.getElem?_append_right (by simp;omega)];rw [List.getElem?_append_right (by simp;omega)] at hv;simpa [hst,hst'] using hv
theorem mixI_any (b o:Nat)(st blk:List Int)(f z:Int)(w:World)(hok:(stOf st).ok)(hst:st.length=8)(hbl:blk.length=64)(hbb:∀i,0≤lk blk i∧lk blk i<256)
    (hr:w.rangeAt b o (rhL st blk f z))(ht:w.there b o 74)(hT:TabK w)(hb0:b≠6):
    Calls prog 204 #[.pointer (some ⟨b,o,none⟩)] w fun e w'=>e= .returned (.tuple #[])∧w'.rangeAt b o (rhL (blockF kTab st (wsTo blk 0 64)) blk f z)∧Upd b o w w':=by
  have hblkR:w.rangeAt b (o+8) (blk.map (Value.int .u8)):=range_part hr 8 (by simp [hst])
  have hstR:w.rangeAt b o (st.map (Value.int .u32)):=by
    have:=range_part (l:= []) (m:=st.map (Value.int .u32)) (r:=blk.map (Value.int .u8)++ [.int .i64 f,int u64 z]) (by rw [List.nil_append,←List.append_assoc];exact hr) 0 rfl;exact this
  have hst0:Hid (w.rangeAt b o (st.map (Value.int .u32))):=hstR
  have hbw:b<w.heap.size:=by
    have:=range_cell hstR 0 (by omega);exact World.block_lt_of_cell? w _ this
  have hgw:6<w.heap.size:=World.block_lt_of_cell? w _ (hT 0 (by omega));have hz61:=zero61;have hz40:=zero40;go_enter func204,ntmps204;go_wp2_with (refine wpList_load_mid rfl 179 _ rfl b (o+8) rfl (blk.map (Value.int .u8)) _ hblkR underlying179 rfl (by rw [size41];simp [hbl]) ?_);refine(schedI_any blk hbl hbb w).mono ?_;rintro e W1 ⟨rfl,hb1⟩;have hs1:=hb1.size;have hix:=index61 (wsTo blk 0 64) (wsTo_length _ _ _);have hlen:((wsTo blk 0 64).map (Value.int .u32)).length=64:=by rw [List.length_map,wsTo_length]
  have hone:=ints_one .u32 (wsTo blk 0 64);have hws:=wsTo_lo32 blk 0 64;generalize hwsd:wsTo blk 0 64=ws at*;have HW:Hid (ws=wsTo blk 0 64):=hwsd.symm;clear hwsd
  go_wp2_with (first
    | (refine wpList_store_mid rfl 314 _ _ rfl W1.heap.size 0 (ws.map (Value.int .u32)).toArray rfl rfl (by simpa [hlen] using there_new W1 zeroWs.toArray 314 64 (by decide)) (by rw [size61];simp [hlen]) (all_oneCell_toArray hone) ?_
       generalize hW2:World.setCells _ _ _ _=W2;have hrw:W2.rangeAt W1.heap.size 0 (ws.map (Value.int .u32)):=by rw [←hW2];exact World.rangeAt_setCells_same _ _ _ _ (by rw [hlen];exact there_new W1 zeroWs.toArray 314 64 (by decide))
       have hs2:W2.heap.size=W1.heap.size+1:=by rw [←hW2,setCells_size];simp
       have hb2:Bl W1 W2:=by rw [←hW2];exact below_setCells ((Below.refl _ _).alloc (Nat.le_refl _) _) (Nat.le_refl _) _ _
       clear hW2)
    |(refine wpList_load_mid rfl 178 _ rfl b o rfl (st.map (Value.int .u32)) _ (by exact fun j v hv=>((hb2.cell (p:=⟨b,o+j,none⟩) (by simp;omega)).trans (hb1.cell (p:=⟨b,o+j,none⟩) (by simp;omega))).trans (hstR j v hv)) underlying178 rfl (by rw [size40];simp [hst]) ?_)
    | (refine wpList_store_mid rfl 178 _ _ rfl (W1.heap.size+1) 0 (st.map (Value.int .u32)).toArray rfl rfl (by have:=there_new W2 zeroSt.toArray 178 8 (by decide);rw [hs2] at this;simpa [hst] using this) (by rw [size40];simp [hst]) (all_oneCell_toArray (ints_one _ _)) ?_
       generalize hW3:World.setCells _ _ _ _=W3;have hrs:W3.rangeAt (W1.heap.size+1) 0 (st.map (Value.int .u32)):=by rw [←hW3];exact World.rangeAt_setCells_same _ _ _ _ (by have:=there_new W2 zeroSt.toArray 178 8 (by decide);rw [hs2] at this;simpa [hst] using this)
       have hs3:W3.heap.size=W1.heap.size+1+1:=by rw [←hW3,setCells_size,World.size_alloc,hs2]
       have hb3:Below (W1.heap.size+1) W2 W3:=by rw [←hW3,←hs2];exact below_setCells ((Below.refl _ _).alloc (Nat.le_refl _) _) (Nat.le_refl _) _ _
       clear hW3))
  have c0:=range_cell hrs 0 (by omega);have c1:=range_cell hrs 1 (by omega);have c2:=range_cell hrs 2 (by omega);have c3:=range_cell hrs 3 (by omega);have c4:=range_cell hrs 4 (by omega);have c5:=range_cell hrs 5 (by omega);have c6:=range_cell hrs 6 (by omega);have c7:=range_cell hrs 7 (by omega);rw [Nat.zero_add] at c0 c1 c2 c3 c4 c5 c6 c7;go_quiet (fail);have hrw3:W3.rangeAt W1.heap.size 0 (ws.map (Value.int .u32)):=fun j v hv=>(hb3.cell (p:=⟨W1.heap.size,0+j,none⟩) (by simp)).trans (hrw j v hv)
  clear c0 c1 c2 c3 c4 c5 c6 c7;go_wp2_with (refine wpList_load_mid rfl 314 _ rfl W1.heap.size 0 rfl (ws.map (Value.int .u32)) _ (by exact hrw3) underlying314 rfl (by rw [size61,hlen]) ?_);have hB:Bl w (W3.drewN nq):=below_drewN ((hb1.trans (hb2.mono hs1)).trans (hb3.mono (by omega))) nq;clear hrs hrw hrw3 hb1 hb2 hb3 hblkR hstR hz61 hz40;generalize W3.drewN nq=W4 at*
  go_loop [4,5,6,7,8,9,10,11,47] (fun a b c d e ff g z i=>∃k:Nat,k≤64∧i= .int .i64 k∧a= .int .u32 (rndTo (stOf st) kTab ws k).a∧b= .int .u32 (rndTo (stOf st) kTab ws k).b∧c= .int .u32 (rndTo (stOf st) kTab ws k).c∧d= .int .u32 (rndTo (stOf st) kTab ws k).d∧e= .int .u32 (rndTo (stOf st) kTab ws k).e∧ff= .int .u32 (rndTo (stOf st) kTab ws k).f∧g= .int .u32 (rndTo (stOf st) kTab ws k).g∧z= .int .u32 (rndTo (stOf st) kTab ws k).z) (fun _ _ _ _ _ _ _ _ i=>64-(intOf i).toNat)
  case atStart=>exact ⟨0,by omega,rfl,rfl,rfl,rfl,rfl,rfl,rfl,rfl,rfl⟩
  case round=>
    obtain⟨k,hk,rfl,rfl,rfl,rfl,rfl,rfl,rfl,rfl,rfl⟩:=hrel;have hok2:=rndTo_ok (stOf st) kTab ws hok k;by_cases hlt2:k<64
    · have hst2:Hid (rndTo (stOf st) kTab ws (k+1)=rnd (rndTo (stOf st) kTab ws k) (lk kTab k) (lk ws k)):=rfl;have hck:=(hB.cell (p:=⟨6,k,none⟩) hgw).trans (hT k hlt2);have hi:=hix k hlt2;clear hix;generalize rndTo (stOf st) kTab ws k=s at*;obtain⟨a,b',c,d,e,f',g',z'⟩:=s;obtain⟨⟨oa,oa'⟩,⟨ob,ob'⟩,⟨oc,oc'⟩,⟨od,od'⟩,⟨oe,oe'⟩,⟨of,of'⟩,⟨og,og'⟩,⟨oz,oz'⟩⟩:=hok2;dsimp only at oa oa' ob ob' oc oc' od od' oe oe' of of' og og' oz oz';go_wp2_with (go_at_call 229;refine(rot_any _ _ _ _ (by omega) (by omega) (by omega) (by omega) rfl).mono ?_;rintro e w' ⟨rfl,rfl⟩);refine⟨⟨k+1,by omega,by go_num,?_,?_,?_,?_,?_,?_,?_,?_⟩,by simp [intOf];omega⟩
      · rw [hst2.out];exact congrArg (Value.int .u32) (rnd_a ⟨a,b',c,d,e,f',g',z'⟩ _ _)
      · rw [hst2.out];rfl
      · rw [hst2.out];rfl
      · rw [hst2.out];rfl
      · rw [hst2.out];exact congrArg (Value.int .u32) (rnd_e ⟨a,b',c,d,e,f',g',z'⟩ _ _)
      · rw [hst2.out];rfl
      · rw [hst2.out];rfl
      · rw [hst2.out];rfl
    · obtain rfl:k=64:=by omega
      have hnb:=lk_blockF kTab st ws;generalize rndTo (stOf st) kTab ws 64=s at*;obtain⟨a,b',c,d,e,f',g',z'⟩:=s;have hix8:=index40 a b' c d e f' g' z';have hls:=fun i hi=>lk_stL hok2 i hi
      have hlst:=fun i hi=>lk_stOf hok i hi
      have hcW:∀j,W4.cell? ⟨b,j,none⟩=w.cell? ⟨b,j,none⟩:=fun j=>hB.cell (p:=⟨b,j,none⟩) hbw
      have hfW:∀j,W4.frozen? ⟨b,j,none⟩=w.frozen? ⟨b,j,none⟩:=fun j=>hB.frozen (p:=⟨b,j,none⟩) hbw
      have hU0:Upd b o w W4:=Upd.of_below hB hbw;clear hB hix hk hlt2 hok2;go_wp2
      go_loopw [121] (fun i wr=>∃k:Nat,k≤8∧i= .int .i64 k∧Upd b o w wr∧(∀i,i<8→wr.cell? ⟨b,o+i,none⟩=some (.int .u32 (if i<k then lk (blockF kTab st ws) i else lk st i)))∧(∀i,8≤i→wr.cell? ⟨b,o+i,none⟩=w.cell? ⟨b,o+i,none⟩)) (fun i _=>8-(intOf i).toNat)
      case atStart=>
        refine⟨0,by omega,rfl,hU0,fun i hi=> ?_,fun i _=>hcW _⟩;rw [if_neg (by omega),hcW];exact range_cell hst0.out i (by omega)
      case round=>
        obtain⟨k,hk,rfl,hU,hc8,hcr⟩:=hrel;by_cases hlt:k<8
        · have hck:=hc8 k hlt;rw [if_neg (by omega)] at hck;have hfk:wr.frozen? ⟨b,o+k,none⟩=false:=by rw [hU.frozen];exact(ht k (by omega)).2
          have hi8:=hix8 k hlt;have hl1:=hls k hlt;have hl2:=hlst k hlt;have hk0:(0:Int)≤(k:Int):=Int.natCast_nonneg _;have hk8:(k:Int)<8:=by omega
          go_wp2
          go_region
          go_wp2;refine⟨⟨k+1,by omega,by go_num,(hU.trans (Upd.set wr (o+k) _ (by omega) (by omega))).drew,?_,?_⟩,by simp [intOf];omega⟩
          · intro i hi;show(wr.setCell ⟨b,o+k,none⟩ _).cell? ⟨b,o+i,none⟩=_;by_cases e1:k=i
            · subst e1;rw [World.cell?_setCell_same _ _ _ hck,if_pos (by omega),hnb k hlt]
            · rw [World.cell?_setCell_other _ _ _ _ (fun he=>e1 (by have:=congrArg Addr.off he;simp only at this;omega)),hc8 i hi];by_cases e2:i<k
              · rw [if_pos e2,if_pos (by omega)]
              · rw [if_neg e2,if_neg (by omega)]
          · intro i hi;show(wr.setCell ⟨b,o+k,none⟩ _).cell? ⟨b,o+i,none⟩=_;rw [World.cell?_setCell_other _ _ _ _ (fun he=>by have:=congrArg Addr.off he;simp only at this;omega)];exact hcr i hi
        · obtain rfl:k=8:=by omega
          go_wp2
          go_end0
          refine⟨rfl,?_,hU⟩;rw [←HW.out];exact rhL_of hst hr (fun i hi=>by rw [hc8 i hi,if_pos hi]) hcr
end
section
attribute [local go_sem ↓] Go.wp_at_zero Go.wp_at_succ
theorem run_copy_str {P:Program}(w:World)(dT sT ty elem:TypeId)(b o dLen dCap:Nat)(t:ByteArray)(n:Nat)
    (hu:P.underlying dT=some (.slice elem))(hz:∀w,(Go.sizeOf elem).run P w= .ok 1 w)(hn:n=Nat.min t.size dLen)
    (hc:∀j,j<n→(w.cell? ⟨b,o+j,none⟩).isSome=true)(hf:∀j,j<n→w.frozen? ⟨b,o+j,none⟩=false):
    (Builtin.copy_ #[dT,sT] ty #[.slice (some ⟨b,o,none⟩) dLen dCap,.string t]).run P w= .ok (goInt n) (w.setCells b o (((byt t).take n).map (Value.int .u8))):=by
  have hnle:n≤t.size:=by rw [hn];exact Nat.min_le_left _ _
  have hl:(((byt t).take n).map (Value.int .u8)).length=n:=by rw [List.length_map,List.length_take,byt_length];omega
  have hst:=run_storeCells_cells (P:=P) b o (((byt t).take n).map (Value.int .u8)) 0 w (by rw [hl];simpa using hc) (by rw [hl];simpa using hf) (ints_one _ _)
  have he:((byt t).take n).map (Value.int .u8)=List.take n (List.map (fun x:UInt8=>Value.int .u8 (x.toNat:Int)) t.data.toList):=by
    rw [byt,←List.map_take,←List.map_take,List.map_map];rfl
  simp only [he] at hst⊢;simp [Builtin.copy_,run_underlying hu,Builtin.lenOf,Builtin.firstCells,hz,←hn];rw [hst];rfl
theorem step_copy_str {P:Program}{ops:Array Oper}{o:Oper}{a:Act}{w:World}{K:Act→World→Prop}{Q:Exit→Act→World→Prop}{E:Prop}
    (hg:o.guard=none)(d x:Operand)(dT sT:TypeId)(hop:o.op=Op.call {callee:=Callee.builtin Builtin.copy,args:=#[d,x],argTypes:=#[dT,sT]})
    (elem:TypeId)(hu:P.underlying dT=some (.slice elem))(hz:∀w,(Go.sizeOf elem).run P w= .ok 1 w)
    (b off dLen dCap:Nat)(hd:a.eval d= .slice (some ⟨b,off,none⟩) dLen dCap)(t:ByteArray)(hx:a.eval x= .string t)(n:Nat)(hn:n=Nat.min t.size dLen)
    (hc:∀j,j<n→(w.cell? ⟨b,off+j,none⟩).isSome=true)(hf:∀j,j<n→w.frozen? ⟨b,off+j,none⟩=false)
    (hK:K (a.put o.dst (goInt n)) (w.setCells b off (((byt t).take n).map (Value.int .u8)))):
    if Region.wanted o (yielded ops a.tmps)=true then Oper.wp P o a w K Q else E:=by
  have hw:Region.wanted o (yielded ops a.tmps)=true:=by simp [Region.wanted,hg]
  rw [if_pos hw];have hrun:=run_copy_str (P:=P) w dT sT o.type elem b off dLen dCap t n hu hz hn hc hf;unfold Oper.wp execOp;simp only [hop,resolve,invoke,builtin,Sem.run_bind,Sem.run_pure,Result.andThen_ok,List.map_toArray,List.map_cons,List.map_nil,hd,hx,hrun];exact hK
structure RC (w:World)(b o:Nat)(st blk:List Int)(f z:Int):Prop where
  there:w.there b o 74
  st:∀i,i<8→w.cell? ⟨b,o+i,none⟩=some (.int .u32 (lk st i))
  blk:∀i,i<64→w.cell? ⟨b,o+8+i,none⟩=some (.int .u8 (lk blk i))
  filled:w.cell? ⟨b,o+72,none⟩=some (.int .i64 f)
  size:w.cell? ⟨b,o+73,none⟩=some (int u64 z)
theorem lk_get (l:List Int)(i:Nat)(h:i<l.length):l[i]? =some (lk l i):=by
  unfold lk;rw [List.getD_eq_getElem?_getD,List.getElem?_eq_getElem h];rfl
theorem rhL_get (st blk:List Int)(f z:Int)(hs:st.length=8)(hb:blk.length=64)(j:Nat):
    (rhL st blk f z)[j]? =if j<8 then some (.int .u32 (lk st j)) else if j<72 then some (.int .u8 (lk blk (j-8))) else if j=72 then some (.int .i64 f) else if j=73 then some (int u64 z) else none:=by
  unfold rhL;rw [List.append_assoc];by_cases h1:j<8
  · rw [if_pos h1,List.getElem?_append_left (by simp;omega),List.getElem?_map,lk_get _ _ (by omega)];rfl
  · rw [if_neg h1,List.getElem?_append_right (by simp;omega),List.length_map,hs];by_cases h2:j<72
    · rw [if_pos h2,List.getElem?_append_left (by simp;omega),List.getElem?_map,lk_get _ _ (by omega)];rfl
    · rw [if_neg h2,List.getElem?_append_right (by simp;omega),List.length_map,hb];by_cases h3:j=72
      · subst h3;rfl
      · rw [if_neg h3];by_cases h4:j=73
        · subst h4;rfl
        · rw [if_neg h4,List.getElem?_eq_none (by simp;omega)]
theorem RC.of_range {w:World}{b o:Nat}{st blk:List Int}{f z:Int}(hs:st.length=8)(hb:blk.length=64)(h:w.rangeAt b o (rhL st blk f z))(ht:w.there b o 74):RC w b o st blk f z:=by
  have hg:=rhL_get st blk f z hs hb;refine⟨ht,fun i hi=>h i _ (by rw [hg,if_pos hi]),fun i hi=> ?_,h 72 _ (by rw [hg];rfl),h 73 _ (by rw [hg];rfl)⟩;have:=h (8+i) (.int .u8 (lk blk i)) (by rw [hg,if_neg (by omega),if_pos (by omega),show 8+i-8=i by omega]);rwa [←Nat.add_assoc] at this
theorem RC.range {w:World}{b o:Nat}{st blk:List Int}{f z:Int}(hs:st.length=8)(hb:blk.length=64)(h:RC w b o st blk f z):w.rangeAt b o (rhL st blk f z):=by
  intro j v hv;rw [rhL_get st blk f z hs hb] at hv;split at hv
  · rename_i hj;rw [h.st j hj];exact hv
  · split at hv
    · rename_i h1 h2
      have:=h.blk (j-8) (by omega);rw [show o+8+(j-8)=o+j by omega] at this;rw [this];exact hv
    · split at hv
      · rename_i h3;subst h3;rw [h.filled];exact hv
      · split at hv
        · rename_i h4;subst h4;rw [h.size];exact hv
        · cases hv
theorem RC.same {w w':World}{b o:Nat}{st blk:List Int}{f z:Int}(h:RC w b o st blk f z)(hb:w'.heap[b]? =w.heap[b]?):RC w' b o st blk f z:=by
  have hc:∀j,w'.cell? ⟨b,j,none⟩=w.cell? ⟨b,j,none⟩:=fun j=>World.cell?_of_block (w:=w) (a:=⟨b,j,none⟩) hb
  have hf:∀j,w'.frozen? ⟨b,j,none⟩=w.frozen? ⟨b,j,none⟩:=fun j=>World.frozen?_of_block (w:=w) (a:=⟨b,j,none⟩) hb
  exact⟨fun j hj=>by rw [hc,hf];exact h.there j hj,fun i hi=>by rw [hc];exact h.st i hi,fun i hi=>by rw [hc];exact h.blk i hi,by rw [hc];exact h.filled,by rw [hc];exact h.size⟩
theorem RC.setF {w:World}{b o:Nat}{st blk:List Int}{f z:Int}(h:RC w b o st blk f z)(f':Int):RC (w.setCell ⟨b,o+72,none⟩ (.int .i64 f')) b o st blk f' z:=by
  have hc:∀j,j≠72→(w.setCell ⟨b,o+72,none⟩ (.int .i64 f')).cell? ⟨b,o+j,none⟩=w.cell? ⟨b,o+j,none⟩:=fun j hj=>World.cell?_setCell_other _ _ _ _ (fun he=>by have:=congrArg Addr.off he;simp only at this;omega)
  refine⟨fun j hj=>⟨(Upd.set w (o+72) _ (by omega) (by omega):Upd b o w _).there _ (h.there j hj).1,by rw [World.frozen?_setCell];exact(h.there j hj).2⟩,fun i hi=>by rw [hc i (by omega)];exact h.st i hi,fun i hi=> ?_,World.cell?_setCell_same _ _ _ h.filled,by rw [hc 73 (by omega)];exact h.size⟩;rw [Nat.add_assoc,hc (8+i) (by omega),←Nat.add_assoc];exact h.blk i hi
theorem RC.setZ {w:World}{b o:Nat}{st blk:List Int}{f z:Int}(h:RC w b o st blk f z)(z':Int):RC (w.setCell ⟨b,o+73,none⟩ (int u64 z')) b o st blk f z':=by
  have hc:∀j,j≠73→(w.setCell ⟨b,o+73,none⟩ (int u64 z')).cell? ⟨b,o+j,none⟩=w.cell? ⟨b,o+j,none⟩:=fun j hj=>World.cell?_setCell_other _ _ _ _ (fun he=>by have:=congrArg Addr.off he;simp only at this;omega)
  refine⟨fun j hj=>⟨(Upd.set w (o+73) _ (by omega) (by omega):Upd b o w _).there _ (h.there j hj).1,by rw [World.frozen?_setCell];exact(h.there j hj).2⟩,fun i hi=>by rw [hc i (by omega)];exact h.st i hi,fun i hi=> ?_,by rw [hc 72 (by omega)];exact h.filled,World.cell?_setCell_same _ _ _ h.size⟩;rw [Nat.add_assoc,hc (8+i) (by omega),←Nat.add_assoc];exact h.blk i hi
theorem Upd.sets {b o:Nat}(w:World)(i:Nat)(vs:List Value)(hi:o≤i)(hi2:i+vs.length≤o+74):Upd b o w (w.setCells b i vs):=
  ⟨World.os_setCells w b i vs,setCells_tape b vs i w,World.output_setCells w b i vs,by rw [setCells_size];exact Nat.le_refl _,fun k hk hne=>World.heap_setCells_other w b i vs hk hne,
    fun j hj=>World.cell?_setCells_out b vs i w ⟨b,j,none⟩ (fun _ _=>by show j<i∨i+vs.length≤j;omega),fun j=>World.frozen?_setCells b vs i w _,fun j hj=>World.isSome_setCells b vs i w _ hj⟩
theorem RC.copy {w:World}{b o:Nat}{st blk:List Int}{f z:Int}(h:RC w b o st blk f z)(k:Nat)(q:List Int)(hq:k+q.length≤64):
    RC (w.setCells b (o+8+k) (q.map (Value.int .u8))) b o st (blkC blk q k) f z:=by
  have hU:Upd b o w (w.setCells b (o+8+k) (q.map (Value.int .u8))):=Upd.sets w _ _ (by omega) (by rw [List.length_map];omega)
  have hout:∀j,(j<8+k∨8+k+q.length≤j)→(w.setCells b (o+8+k) (q.map (Value.int .u8))).cell? ⟨b,o+j,none⟩=w.cell? ⟨b,o+j,none⟩:=fun j hj=>
    World.cell?_setCells_out b _ _ w ⟨b,o+j,none⟩ (fun _ _=>by rw [List.length_map];show o+j<o+8+k∨o+8+k+q.length≤o+j;omega)
  refine⟨fun j hj=>⟨hU.there _ (h.there j hj).1,by rw [hU.frozen];exact(h.there j hj).2⟩,fun i hi=>by rw [hout i (by omega)];exact h.st i hi,fun i hi=> ?_,by rw [hout 72 (by omega)];exact h.filled,by rw [hout 73 (by omega)];exact h.size⟩;unfold blkC;rw [lk_tab64 _ i hi];by_cases hin:k≤i∧i<k+q.length
  · rw [if_pos hin];have:=World.cell?_setCells_in b (q.map (Value.int .u8)) (o+8+k) w (fun j hj=>by rw [List.length_map] at hj;have:=(h.there (8+k+j) (by omega)).1;rwa [show o+(8+k+j)=o+8+k+j by omega] at this) (i-k) (by rw [List.length_map];omega);rw [show o+8+k+(i-k)=o+8+i by omega] at this;rw [this,List.getElem_map];have hg:=lk_get q (i-k) (by omega);rw [List.getElem?_eq_getElem (by omega)] at hg;rw [Option.some.inj hg]
  · have e:=hout (8+i) (by omega);rw [←Nat.add_assoc] at e;rw [if_neg hin,e];exact h.blk i hi
theorem cell_sets_far {w:World}{b i j:Nat}(vs:List Value){u:Value}(h:j<i∨i+vs.length≤j)(hc:w.cell? ⟨b,j,none⟩=some u):(w.setCells b i vs).drew.cell? ⟨b,j,none⟩=some u:=by
  show(w.setCells b i vs).cell? ⟨b,j,none⟩=some u;rw [World.cell?_setCells_out b vs i w ⟨b,j,none⟩ (fun _ _=>h)];exact hc
def RH (w:World)(b o:Nat)(t:List Int)(z:Int):Prop:=∃blk:List Int,blk.length=64∧(∀i,0≤lk blk i∧lk blk i<256)∧(∀i,i<t.length%64→lk blk i=lk t (64*(t.length/64)+i))∧
  RC w b o (stateTo t (t.length/64)) blk ((t.length%64:Nat):Int) z
theorem lk_blkC (blk q:List Int)(f i:Nat)(h:i<64):lk (blkC blk q f) i=if f≤i∧i<f+q.length then lk q (i-f) else lk blk i:=by
  unfold blkC;rw [lk_tab64 _ i h]
theorem blkC_lt {blk q:List Int}{f:Nat}(hb:∀i,0≤lk blk i∧lk blk i<256)(hq:∀i,0≤lk q i∧lk q i<256)(i:Nat):0≤lk (blkC blk q f) i∧lk (blkC blk q f) i<256:=by
  refine tab64_lt _ (fun i _=> ?_) i;split
  · exact hq _
  · exact hb _
theorem blkC_text {t q blk:List Int}(hq:t.length%64+q.length≤64)(hblk:∀i,i<t.length%64→lk blk i=lk t (64*(t.length/64)+i))(i:Nat)(hi:i<t.length%64+q.length):
    lk (blkC blk q (t.length%64)) i=lk (t++q) (64*(t.length/64)+i):=by
  rw [lk_blkC _ _ _ _ (by omega)];by_cases h:t.length%64≤i
  · rw [if_pos ⟨h,hi⟩,lk_append_ge _ _ _ (by omega)];congr 1;omega
  · rw [if_neg (by omega),hblk i (by omega),lk_append_lt _ _ _ (by omega)]
theorem takeI_any (b o:Nat)(t:List Int)(s:ByteArray)(w:World)(hR:RH w b o t (t.length:Int))(hT:TabK w)(hb0:b≠6)(hlen:t.length+s.size≤1152921504606846976):
    Calls prog 172 #[.pointer (some ⟨b,o,none⟩),.string s] w fun e w'=>e= .returned (.tuple #[])∧RH w' b o (t++byt s) ((t++byt s).length:Int)∧Upd b o w w':=by
  obtain⟨blk,hbl,hbb,hbt,hC⟩:=hR;have hcz:=hC.size;have hfz:w.frozen? ⟨b,o+73,none⟩=false:=(hC.there 73 (by omega)).2;have hgw:6<w.heap.size:=World.block_lt_of_cell? w _ (hT 0 (by omega));go_enter func172,ntmps172;go_wp2;have hC1:=hC.setZ ((t.length:Int)+(s.size:Int));have hU1:Upd b o w (w.setCell ⟨b,o+73,none⟩ (int u64 ((t.length:Int)+(s.size:Int)))):=Upd.set w (o+73) _ (by omega) (by omega);generalize w.setCell ⟨b,o+73,none⟩ (int u64 ((t.length:Int)+(s.size:Int)))=w1 at*;clear hcz hfz hC
  go_loopw [1] (fun pv wr=>∃(p:ByteArray) (q:List Int),pv= .string p∧Hid (q++byt p=byt s)∧q.length+p.size=s.size∧RH wr b o (t++q) ((t.length:Int)+(s.size:Int))∧Upd b o w wr) (fun pv _=>strV pv)
  case atStart=>exact ⟨s,[],rfl,rfl,by simp,⟨blk,hbl,hbb,by rw [List.append_nil];exact hbt,by rw [List.append_nil];exact hC1⟩,hU1⟩
  case round=>
    clear hC1 hU1 hbb hbl hbt blk;obtain⟨p,q,rfl,hqp,hql,hR,hU⟩:=hrel;by_cases hp:0<p.size
    · generalize hTq:t++q=T at*;have hTl:T.length=t.length+q.length:=by rw [←hTq,List.length_append]
      have HTq:Hid (t++q=T):=hTq;clear hTq;obtain⟨blk,hbl,hbb,hbt,hC⟩:=hR;obtain⟨f,hf⟩:∃f,f=T.length%64:=⟨_,rfl⟩;obtain⟨K,hK⟩:∃K,K=T.length/64:=⟨_,rfl⟩;have hfK:T.length=64*K+f:=by omega
      have hf64:f<64:=by omega
      rw [←hf,←hK] at hC hbt;have Hf:Hid (f=T.length%64):=hf;have HK:Hid (K=T.length/64):=hK;clear hf hK;obtain⟨n,hn⟩:∃n,n=Nat.min p.size (64-f):=⟨_,rfl⟩;have hn1:n≤p.size:=by rw [hn];exact Nat.min_le_left _ _
      have hn2:n≤64-f:=by rw [hn];exact Nat.min_le_right _ _
      have hn3 : n = p.size ∨ n = 64 - f := by rw [hn];rcases Nat.le_total p.size (64-f) with h|h
                                               · left;exact Nat.min_eq_left h
                                               · right;exact Nat.min_eq_right h
      have hn0:0<n:=by omega
      have hql2:((byt p).take n).length=n:=by rw [List.length_take,byt_length];omega
      have hT2:TabK wr:=fun i hi=>(hU.far (p:=⟨6,i,none⟩) hgw (fun e=>hb0 e.symm)).trans (hT i hi)
      have c72:=hC.filled;have hsl:=slice41_from b (o+8) f hf64;have q0:(0:Int)≤(f:Int):=Int.natCast_nonneg _;have q1:(f:Int)≤64:=by omega
      have Hn:Hid (n=Nat.min p.size (64-f)):=hn;clear hn;go_wp2
      go_region_held3 (fun w'=>w'.cell? ⟨b,o+72,none⟩=some (.int .i64 (f:Int)))
        (first|exact cell_sets_far _ (by rw [List.length_map,hql2];omega) c72|go_keep)
        ((refine step_copy_str (by rfl) _ _ _ _ (by rfl) 5 underlying35 sizeOf5 b (o+8+f) (64-f) (64-f) (by rfl) p (by rfl) n Hn.out (by exact fun j hj=>by have:=(hC.there (8+f+j) (by omega)).1;rwa [show o+(8+f+j)=o+8+f+j by omega] at this) (by exact fun j hj=>by have:=(hC.there (8+f+j) (by omega)).2;rwa [show o+(8+f+j)=o+8+f+j by omega] at this) ?_))
      have hC2:RC (wr.drew.setCells b (o+8+f) (((byt p).take n).map (Value.int .u8))) b o (stateTo T K) (blkC blk ((byt p).take n) f) (f:Int) ((t.length:Int)+(s.size:Int)):=
        (hC.same (w':=wr.drew) rfl).copy f ((byt p).take n) (by rw [hql2];omega)
      have hU2:Upd b o w (wr.drew.setCells b (o+8+f) (((byt p).take n).map (Value.int .u8))):=hU.drew.trans (Upd.sets _ _ _ (by omega) (by rw [List.length_map,hql2];omega))
      have hbt2:∀i,i<f+n→lk (blkC blk ((byt p).take n) f) i=lk (T++(byt p).take n) (64*K+i):=fun i hi=>by
        rw [Hf.out,HK.out];exact blkC_text (by rw [←Hf.out,hql2];omega) (by rw [←Hf.out,←HK.out];exact hbt) i (by rw [←Hf.out,hql2];exact hi)
      have hbb2:=blkC_lt (f:=f) hbb (fun i=>lk_lt (l:=(byt p).take n) (fun x hx=>byt_lt p x (List.mem_of_mem_take hx)) i);have hbl2:(blkC blk ((byt p).take n) f).length=64:=tab64_length _;generalize blkC blk ((byt p).take n) f=blk2 at*
      have HQ:Hid ((q++(byt p).take n)++byt (p.extract n p.size)=byt s):=by
        simp only [Hid];rw [byt_extract,List.append_assoc,List.take_append_drop];exact hqp.out
      have HT3:Hid (t++(q++(byt p).take n)=T++(byt p).take n):=by simp only [Hid];rw [←HTq.out,List.append_assoc]
      have hql3:(q++(byt p).take n).length+(p.extract n p.size).size=s.size:=by rw [List.length_append,hql2,ByteArray.size_extract];omega
      have hTl3:(T++(byt p).take n).length=64*K+f+n:=by rw [List.length_append,hql2];omega
      generalize wr.drew.setCells b (o+8+f) (((byt p).take n).map (Value.int .u8))=wc at*;clear hC hbt hbb hbl c72 hsl hT2;have c72:=hC2.filled;have z72:wc.frozen? ⟨b,o+72,none⟩=false:=(hC2.there 72 (by omega)).2;have hni:(n:Int)≤(p.size:Int):=by omega
      have hU3:Upd b o w (wc.setCell ⟨b,o+72,none⟩ (.int .i64 ((f:Int)+(n:Int)))):=hU2.trans (Upd.set wc (o+72) _ (by omega) (by omega));have hC3:=hC2.setF ((f:Int)+(n:Int));by_cases hfull:f+n=64
      · have hts:((f:Int)+(n:Int)==64)=true:=beq_iff_eq.2 (by omega);have hT3:TabK (wc.setCell ⟨b,o+72,none⟩ (.int .i64 ((f:Int)+(n:Int)))):=fun i hi=>(hU3.far (p:=⟨6,i,none⟩) hgw (fun e=>hb0 e.symm)).trans (hT i hi)
        go_wp2_with fail;refine(mixI_any b o (stateTo T K) blk2 ((f:Int)+(n:Int)) ((t.length:Int)+(s.size:Int)) _ (stateTo_ok _ _) (stateTo_length _ _) hbl2 hbb2 (hC3.range (stateTo_length _ _) hbl2) hC3.there hT3 hb0).mono ?_;rintro e wm ⟨rfl,hrm,hUm⟩;have hCm:=RC.of_range (by rfl) hbl2 hrm (hUm.ok hC3.there);have m72:=hCm.filled;have y72:wm.frozen? ⟨b,o+72,none⟩=false:=(hCm.there 72 (by omega)).2;have hC4:=hCm.setF 0;have hU4:Upd b o w (wm.setCell ⟨b,o+72,none⟩ (.int .i64 0)):=(hU3.trans hUm).trans (Upd.set wm (o+72) _ (by omega) (by omega));clear hCm hrm hUm hU3 hC3 hC2 hU2 c72 z72 hT3;go_wp2;go_roundw
        case rel=>
          have hd:(T++(byt p).take n).length/64=K+1:=by rw [hTl3];omega
          have hm:(T++(byt p).take n).length%64=0:=by rw [hTl3];omega
          have R:RH (wm.setCell ⟨b,o+72,none⟩ (.int .i64 0)) b o (t++(q++(byt p).take n)) ((t.length:Int)+(s.size:Int)):=by
            rw [HT3.out];refine⟨blk2,hbl2,hbb2,?_,?_⟩
            · rw [hm];intro i hi;omega
            · rw [hm,hd,stateTo,stateTo_append T _ K (by omega),←wsTo_congr (m:=blk2) (p:=0) (fun i hi=>by rw [Nat.zero_add];exact hbt2 i (by omega)) 64];exact hC4
          first
            |exact ⟨p.extract n p.size,q++(byt p).take n,rfl,HQ,hql3,R,hU4⟩
            |((repeat apply Exists.intro);exact⟨⟨p.extract n p.size,q++(byt p).take n,rfl,HQ,hql3,R,hU4⟩,rfl⟩)
        case measure=>simp [strV,ByteArray.size_extract];omega
      · have hts:((f:Int)+(n:Int)==64)=false:=beq_eq_false_iff_ne.2 (by omega);go_wp2;go_roundw
        case rel=>
          have hd:(T++(byt p).take n).length/64=K:=by rw [hTl3];omega
          have hm:(T++(byt p).take n).length%64=f+n:=by rw [hTl3];omega
          have R:RH (wc.setCell ⟨b,o+72,none⟩ (.int .i64 ((f:Int)+(n:Int)))) b o (t++(q++(byt p).take n)) ((t.length:Int)+(s.size:Int)):=by
            rw [HT3.out];refine⟨blk2,hbl2,hbb2,?_,?_⟩
            · rw [hm,hd];exact hbt2
            · rw [hm,hd,stateTo_append T _ K (by omega)];exact hC3
          first
            |exact ⟨p.extract n p.size,q++(byt p).take n,rfl,HQ,hql3,R,hU3⟩
            |((repeat apply Exists.intro);exact⟨⟨p.extract n p.size,q++(byt p).take n,rfl,HQ,hql3,R,hU3⟩,rfl⟩)
        case measure=>simp [strV,ByteArray.size_extract];omega
    · have hp0:p.size=0:=by omega
      have hpb:byt p= []:=List.length_eq_zero_iff.1 (by rw [byt_length];exact hp0);have hpi:(p.size:Int)=0:=by omega
      have Hqs:Hid (q=byt s):=by have:=hqp.out;rw [hpb,List.append_nil] at this;exact this
      clear hpb;go_wp2
      go_end0
      refine⟨rfl,?_,hU⟩;rw [←Hqs.out,List.length_append];have:((t.length+q.length:Nat):Int)=(t.length:Int)+(s.size:Int):=by omega
      rw [this];exact hR
end
end Go.Proofs.YtjhbckngdclleaaGreatDoor
