import Derived.Test.YtmjniccfjffclaaGreatDoorMrg12
import Derived.Lib.BitFns
set_option linter.unusedVariables false
set_option maxRecDepth 100000
set_option maxHeartbeats 16000000
namespace Go.Proofs.YtmjniccfjffclaaGreatDoor
open Go.Proofs.Tryz Go.RowKit
open Go.Value (int)
open Go.IntKind (u64)
section
attribute [local go_sem ↓] Go.wp_at_zero Go.wp_at_succ
theorem exmI_no (msg tag:ByteArray)(n:Int)(w:World)(h: ¬ okM msg tag n):
    Cr 178 #[.string msg,.string tag,.int .i64 n] w (.tuple #[.string ⟨#[]⟩,.bool false]):=by
  by_cases h1:tag.size<1
  · have g1:(tag.size:Int)<1:=by omega
    go_enter func178,ntmps178;go_wp2;go_ret2;exact⟨rfl,Below.refl _ _⟩
  · have g1 : ¬ (tag.size:Int)<1:=by omega
    by_cases h2:255<tag.size
    · have g2:(255:Int)<(tag.size:Int):=by omega
      go_enter func178,ntmps178;go_wp2;go_ret2;exact⟨rfl,Below.refl _ _⟩
    · have g2: ¬ (255:Int)<(tag.size:Int):=by omega
      by_cases h3:n<1
      · go_enter func178,ntmps178;go_wp2;go_ret2;exact⟨rfl,Below.refl _ _⟩
      · by_cases h4:8160<n
        · go_enter func178,ntmps178;go_wp2;go_ret2;exact⟨rfl,Below.refl _ _⟩
        · by_cases h5:65535<msg.size
          · have g5:(65535:Int)<(msg.size:Int):=by omega
            go_enter func178,ntmps178;go_wp2;go_ret2;exact⟨rfl,Below.refl _ _⟩
          · exact absurd ⟨by omega,by omega,by omega,by omega,by omega⟩ h
theorem cf_cls (args:Array Value)(w:World):(callFunc 197 args).run prog w= .ok (.enter 197 args) w:=by kernel_rfl
theorem Row0.same {w w':World}{base n:Nat}{v:Value}{xs:List Value}(h:Row0 w base v n xs)(hb:∀b,base≤b→b<w.heap.size→w'.heap[b]? =w.heap[b]?)(hs:w.heap.size≤w'.heap.size):Row0 w' base v n xs:=by
  rcases h with h|⟨g,cap,rfl,hr⟩
  · exact .inl h
  · exact .inr ⟨g,cap,rfl,hr.same (hb g hr.lo hr.hi) hs⟩
theorem Cls.below {W W':World}{B bc bs bl be:Nat}{F Tl:List Int}{T:ByteArray}{k:Nat}(h:Cls W bc bs bl be F Tl T k)(hb:Below B W W')(h1:bc<B)(h2:bs<B)(h3:bl<B)(h4:be<B):Cls W' bc bs bl be F Tl T k:=
  ⟨(hb.block _ h1).trans h.c,(hb.block _ h2).trans h.s,(hb.block _ h3).trans h.l,(hb.block _ h4).trans h.e⟩
theorem exmI_yes (msg tag:ByteArray)(n:Nat)(w:World)(hT0:TabK w)(h:okM msg tag n):
    Cr 178 #[.string msg,.string tag,.int .i64 n] w (.tuple #[.string (strOfNums (expM (byt msg) (byt tag) n)),.bool true]):=by
  obtain⟨i0,hi0,hz0,hz1,hz2⟩:=info_parts infoU8';have hgw:7<w.heap.size:=World.block_lt_of_cell? w _ (hT0 0 (by omega));obtain⟨E,hE0⟩:∃E,Hid (E=expM (byt msg) (byt tag) n):=⟨_,rfl⟩;rw [←hE0.out];obtain⟨h1,h2,h3,h4,h5⟩:=h;have g1: ¬ (tag.size:Int)<1:=by omega
  have g2: ¬ (255:Int)<(tag.size:Int):=by omega
  have g3: ¬ (n:Int)<1:=by omega
  have g4: ¬ (8160:Int)<(n:Int):=by omega
  have g5: ¬ (65535:Int)<(msg.size:Int):=by omega
  have ecl:=cf_cls;go_enter func178,ntmps178;go_wp2_with fail;refine(blocksI msg tag n w hT0 h1 h2 (by omega) h5).mono ?_;rintro e W1 ⟨bc,bs,bl,be,T,rfl,hC,hTb,hTs,hls,hle,hlc,hll,hb1⟩;have hE:Hid (E=(mOut (mFirst (byt msg) (byt tag) n) (mTag (byt tag)) ((n+31)/32)).take n):=by simp only [Hid];rw [hE0.out,expM]
  have hFl:=mFirst_length (byt msg) (byt tag) n;have hFb:=mFirst_lt (byt msg) (byt tag) n;generalize mFirst (byt msg) (byt tag) n=F at*;generalize mTag (byt tag)=Tl at*;clear hE0;have lc:=hC.c.lt;have ls:=hC.s.lt;have ll:=hC.l.lt;have le:=hC.e.lt;go_wp2
  go_loopw [9] (fun ov wr=>∃k:Nat,32*k≤n+31∧Row0 wr W1.heap.size ov (32*k) ((mOut F Tl k).map (Value.int .u8))∧Cls wr bc bs bl be F Tl T k∧W1.heap.size≤wr.heap.size∧Bl w wr) (fun v _=>n+32-lenV v)
  case atStart=>exact ⟨0,by omega,.inl ⟨rfl,rfl,rfl⟩,hC,Nat.le_refl _,hb1⟩
  case round=>
    clear hC hb1;obtain⟨k,hkn,hrow,hC,hsz,hbr⟩:=hrel
    obtain⟨ao,cap,rfl⟩:∃ao cap,u9= .slice ao (32*k) cap:=by
      rcases hrow with ⟨rfl,h,_⟩|⟨g,cap,rfl,_⟩
      · exact⟨none,0,by rw [h]⟩
      · exact⟨_,_,rfl⟩
    by_cases hltk:32*k<n
    · have hk255:k<255:=by omega
      have hTr:TabK wr:=fun i hi=>(hbr.cell (p:=⟨7,i,none⟩) hgw).trans (hT0 i hi)
      have hli:((32*k:Nat):Int)<(n:Int):=by omega
      have HR:Hid (Row0 wr W1.heap.size (.slice ao (32*k) cap) (32*k) ((mOut F Tl k).map (Value.int .u8))):=hrow;clear hrow;go_wp2_with fail;refine(nextI w.heap.size bc bs bl be F Tl T k wr hC hTr hls hle hgw hlc hll hk255 hFl hFb hTb hTs).mono ?_;rintro e W2 ⟨rfl,hC2,hb2,ho2⟩;have hs2:=hb2.size;have hrow2:=HR.out.same (fun b h1 h2=>ho2 b h2 (by omega) (by omega)) hs2;have hbr2:Bl w W2:=hbr.trans hb2;have hsz32:(strOfNums (mBlk F Tl (k+1))).size=32:=by rw [strOfNums_size,mBlk_length]
      have hbt:Hid ((mOut F Tl k).map (Value.int .u8)++(byt (strOfNums (mBlk F Tl (k+1)))).map (Value.int .u8)=(mOut F Tl (k+1)).map (Value.int .u8)):=by
        simp only [Hid];rw [byt_str _ (mBlk_lt _ _ _),←List.map_append,mOut]
      clear hC hbr HR ho2 hb2 hTr
      go_wp2_with (first
        | (refine wpList_append_str rfl _ _ 22 9 rfl W1.heap.size 5 i0 (.int .u8 0) underlying22 underlying9 hi0 hz0 hz1 hz2 rfl (.slice ao (32*k) cap) (32*k) ((mOut F Tl k).map (Value.int .u8)) rfl hrow2 (strOfNums (mBlk F Tl (k+1))) rfl (by rw [hsz32];omega) (by rw [hsz32];omega) (by omega) ?_
           intro g3 cap3 w3 hrow3 hb8
           rw [hbt.out,hsz32] at hrow3))
      have R1:Row0 w3 W1.heap.size (.slice (some ⟨g3,0,none⟩) (32*k+32) cap3) (32*(k+1)) ((mOut F Tl (k+1)).map (Value.int .u8)):=by
        rw [Nat.mul_add];exact .inr ⟨g3,cap3,rfl,hrow3⟩
      have R2:=hC2.below hb8 lc ls ll le;have R3:Bl w w3:=hbr2.trans (hb8.mono (by omega));have R4:W1.heap.size≤w3.heap.size:=by have:=hb8.size;omega
      go_roundw
      case rel=>
        first
          |exact ⟨k+1,by omega,R1,R2,R4,R3⟩
          |((repeat apply Exists.intro);exact⟨⟨k+1,by omega,R1,R2,R4,R3⟩,rfl⟩)
      case measure=>simp [lenV];omega
    · have hkk:k=(n+31)/32:=by omega
      have hexp:Hid (E=(mOut F Tl k).take n):=by simp only [Hid];rw [hE.out,←hkk]
      have hol:=mOut_length F Tl k;clear hkk;rcases hrow with ⟨_,hz,_⟩|⟨g,cap',hsl,hrow⟩
      · omega
      · cases hsl;have hcv:=run_convert_bytes_arg (P:=prog) wr 22 5 underlying22 underlying5 g 0 n cap ((mOut F Tl k).take n) (by rw [List.length_take,hol];omega) (fun i h=>by rw [Nat.zero_add,hrow.cell i (by omega)];congr 2;rw [←lk_take _ n i h];rfl) 9 underlying9;have hcap:=hrow.le;have hli: ¬ ((32*k:Nat):Int)<(n:Int):=by omega
        go_wp2;go_ret2;refine⟨?_,hbr⟩;show Ending.returned (.tuple #[.string (strOfNums ((mOut F Tl k).take n)),.bool true])=_;rw [hexp.out]
end
namespace Dv
theorem or_add (h t s:Nat)(ht:t<2^s):h*2^s|||t=h*2^s+t:=by
  rw [Nat.mul_comm,Nat.two_pow_add_eq_or_of_lt ht]
end Dv
theorem orN (a b:Nat)(ha:a<18446744073709551616)(hb:b<18446744073709551616):bits .or .u64 (a:Int) (b:Int)=((a|||b:Nat):Int):=bits_or_u64_nat a b ha hb
theorem len_le (x:Nat)(hx:x<2^64):Lib.bitLen x≤64:=Lib.bitLen_le x 64 (Nat.le_refl _) hx
theorem len_up:∀(f x:Nat),x<2^f→x<2^(Lib.bitLenAux f x)
  |0,x,h=>by simpa [Lib.bitLenAux] using h
  | f+1,x,h=>by
    unfold Lib.bitLenAux;split
    · subst_vars;simp
    · have:=len_up f (x/2) (by rw [Nat.pow_succ] at h;omega);rw [Nat.add_comm,Nat.pow_succ];omega
theorem len_lo:∀(f x:Nat),x≠0→x<2^f→1≤Lib.bitLenAux f x∧2^(Lib.bitLenAux f x-1)≤x
  |0,x,h0,h=>by simp at h;omega
  | f +1,x,h0,h=>by
    unfold Lib.bitLenAux;rw [if_neg h0];refine⟨by omega,?_⟩;rw [Nat.add_sub_cancel_left];by_cases h2:x/2=0
    · rw [h2];have:Lib.bitLenAux f 0=0:=by cases f<;>simp [Lib.bitLenAux]
      rw [this];omega
    · obtain⟨q1,q2⟩:=len_lo f (x/2) h2 (by rw [Nat.pow_succ] at h;omega);have:Lib.bitLenAux f (x/2)=(Lib.bitLenAux f (x/2)-1)+1:=by omega
      rw [this,Nat.pow_succ];omega
theorem ret_i64 {a b:Int}(h:a=b):Ending.returned (.int .i64 a)= .returned (.int .i64 b):=by rw [h]
theorem get8 (i:Nat)(h:i<Lib.len8tab.size):((Lib.len8tab[i]'h).toNat:Int)=Lib.bitLen i:=by
  have hs:=Lib.len8tab_size;have:=Lib.len8_of (i:Int) (by omega) (by omega);rw [Int.toNat_natCast] at this;rw [←this,Lib.len8,Int.toNat_natCast,getElem?_pos _ i h];rfl
theorem get8_sh (k x:Nat)(i:Nat)(h:i<Lib.len8tab.size)(hE:i=x/2^k)(hk:k=0∨2^k≤x)(hx:x<2^64):(k:Int)+((Lib.len8tab[i]'h).toNat:Int)=(Lib.bitLen x:Int):=by
  rw [get8,hE];rcases hk with rfl|hk
  · simp
  · rw [Lib.bitLen_shift k x hk hx];omega
theorem wrap64_small (z:Int)(h0:0≤z)(h1:z≤9223372036854775807):wrap64 z=z:=by unfold wrap64;omega
theorem sh_wrap (k x:Nat)(i:Nat)(h:i<Lib.len8tab.size)(hE:i=x/2^k)(hk:k=0∨2^k≤x)(hx:x<2^64)(hk64:k≤64):wrap64 ((k:Int)+wrap64 ((Lib.len8tab[i]'h).toNat:Int))=(Lib.bitLen x:Int):=by
  have e:=get8_sh k x i h hE hk hx;have l:=(Lib.len8tab[i]'h).toNat_lt;generalize (Lib.len8tab[i]'h).toNat=q at*;rw [wrap64_small q (by omega) (by omega),wrap64_small _ (by omega) (by omega)];exact e
theorem sh_wrap0 (x:Nat)(i:Nat)(h:i<Lib.len8tab.size)(hE:i=x)(hx:x<2^64):wrap64 (wrap64 ((Lib.len8tab[i]'h).toNat:Int))=(Lib.bitLen x:Int):=by
  have:=sh_wrap 0 x i h (by rw [hE,Nat.pow_zero,Nat.div_one]) (.inl rfl) hx (by omega);simpa using this
theorem len_int (x:Int)(w:World)(h0:0≤x)(h1:x≤18446744073709551615):
    Calls prog 158 #[int u64 x] w fun e w'=>e= .returned (.int .i64 (Lib.bitLen x.toNat))∧w=w':=by
  go_enter func158,ntmps158;go_wp2
  all_goals first
    |(go_ret;refine⟨ret_i64 ?_,rfl⟩)
    |(exfalso;have hs:=Lib.len8tab_size;omega)
  all_goals have hs:=Lib.len8tab_size
  · exact sh_wrap 56 x.toNat _ _ (by omega) (.inr (by omega)) (by omega) (by omega)
  · exact sh_wrap 48 x.toNat _ _ (by omega) (.inr (by omega)) (by omega) (by omega)
  · exact sh_wrap 40 x.toNat _ _ (by omega) (.inr (by omega)) (by omega) (by omega)
  · exact sh_wrap 32 x.toNat _ _ (by omega) (.inr (by omega)) (by omega) (by omega)
  · exact sh_wrap 24 x.toNat _ _ (by omega) (.inr (by omega)) (by omega) (by omega)
  · exact sh_wrap 16 x.toNat _ _ (by omega) (.inr (by omega)) (by omega) (by omega)
  · exact sh_wrap 8 x.toNat _ _ (by omega) (.inr (by omega)) (by omega) (by omega)
  · exact sh_wrap0 x.toNat _ _ rfl (by omega)
theorem len_nat (x:Nat)(hx:x<18446744073709551616)(w:World):
    Calls prog 158 #[int u64 x] w fun e w'=>e= .returned (.int .i64 (Lib.bitLen x))∧w=w':=by
  have:=len_int (x:Int) w (by omega) (by omega);rwa [Int.toNat_natCast] at this
theorem lead_any (x:Nat)(hx:x<18446744073709551616)(w:World):
    Calls prog 151 #[int u64 x] w fun e w'=>e= .returned (.int .i64 ((64-Lib.bitLen x:Nat):Int))∧w=w':=by
  have L:=len_nat x hx;have hl:=len_le x (by omega);generalize Lib.bitLen x=q at*;clear hx;go_enter func151,ntmps151;go_wp2_with fail;refine(L _).mono ?_;rintro e w' ⟨rfl,rfl⟩;go_wp2;go_ret;exact⟨ret_i64 (by omega),rfl⟩
theorem maskN (a:Nat)(ha:a<18446744073709551616):bits .and .u64 (a:Int) 4294967295=((a%4294967296:Nat):Int):=by
  have h:=bits_and_u64_nat a 4294967295 ha (by omega);rwa [show a&&&4294967295=a%4294967296 from Nat.and_two_pow_sub_one_eq_mod a 32] at h
theorem maskW (z:Int):bits .and .u64 (IntKind.u64.wrap z) 4294967295=IntKind.u64.wrap z%4294967296:=by
  obtain⟨n,hn⟩:∃n:Nat,IntKind.u64.wrap z=n:=⟨(IntKind.u64.wrap z).toNat,by rw [IntKind.wrap_u64];omega⟩;have hl:n<18446744073709551616:=by rw [IntKind.wrap_u64] at hn;omega
  rw [hn,maskN n hl];omega
theorem ret_two {k l:IntKind}{a b c d:Int}(h:a=c)(h2:b=d):Ending.returned (.tuple #[.int k a,.int l b])= .returned (.tuple #[.int k c,.int l d]):=by rw [h,h2]
theorem wrapM (a:Nat):IntKind.u64.wrap (a:Int)=((a%18446744073709551616:Nat):Int):=by rw [IntKind.wrap_u64];omega
theorem mul64_any (x y:Nat)(hx:x<18446744073709551616)(hy:y<18446744073709551616)(w:World):
    Calls prog 110 #[int u64 x,int u64 y] w fun e w'=>e= .returned (.tuple #[int u64 ((x*y/18446744073709551616:Nat):Int),int u64 ((x*y%18446744073709551616:Nat):Int)])∧w=w':=by
  go_enter func110,ntmps110;go_wp2;go_ret2;refine⟨ret_two ?_ ?_,rfl⟩
  · obtain⟨b1,b2,b3,hh⟩:=Lib.mul64_hi x y hx hy;have ba:=Lib.half_mul_le (a:=x/4294967296) (b:=y/4294967296) (by omega) (by omega);have bb:=Lib.half_mul_le (a:=x/4294967296) (b:=y%4294967296) (by omega) (by omega);have bc:=Lib.half_mul_le (a:=x%4294967296) (b:=y/4294967296) (by omega) (by omega);have d0:(x:Int)/4294967296=((x/4294967296:Nat):Int):=by omega
    have d1:(y:Int)/4294967296=((y/4294967296:Nat):Int):=by omega
    rw [maskN x hx,maskN y hy,d0,d1];simp only [maskW,←Int.natCast_mul];simp only [IntKind.wrap_u64];rw [←hh];generalize x/4294967296*(y/4294967296)=p3 at*;generalize x/4294967296*(y%4294967296)=p2 at*;generalize x%4294967296*(y/4294967296)=p1 at*;generalize x%4294967296*(y%4294967296)=p0 at*;clear d0 d1 hh hx hy;omega
  · rw [←Int.natCast_mul,wrapM]
namespace Dv
structure Half (Y a b U d:Nat):Prop where
  y:Y=a*4294967296+b
  b:b<4294967296
  a0:2147483648≤a
  a1:a<4294967296
  u:U<Y
  d:d<4294967296
variable {Y a b U d q r:Nat}
theorem Half.ypos (h:Half Y a b U d):0<Y:=by have:=h.u;omega
theorem Half.small (h:Half Y a b U d):(U*4294967296+d)/Y<4294967296:=by
  rw [Nat.div_lt_iff_lt_mul h.ypos];have:=h.u;have:=h.d;have:(U+1)*4294967296≤Y*4294967296:=Nat.mul_le_mul_right _ (by omega);omega
theorem Half.less (h:Half Y a b U d)(e:q*a+r=U):((U*4294967296+d)/Y<q↔4294967296*r+d<q*b):=by
  rw [Nat.div_lt_iff_lt_mul h.ypos,h.y,Nat.mul_add,←Nat.mul_assoc];generalize q*a=m at*;generalize q*b=n at*;omega
theorem Half.start (h:Half Y a b U d):(U*4294967296+d)/Y≤U/a∧U/a≤4294967297:=by
  have h0:=h.a0;have h1:=h.u;have h2:=h.d;have h3:=h.b;have hy:=h.y;constructor
  · apply Nat.le_of_lt_succ;rw [Nat.div_lt_iff_lt_mul h.ypos,hy];have e:=Nat.lt_mul_div_succ U (show 0<a by omega);have e2:U+1≤(U/a+1)*a:=by rw [Nat.mul_comm];exact e
    have e3:(U+1)*4294967296≤(U/a+1)*a*4294967296:=Nat.mul_le_mul_right _ e2;rw [Nat.mul_add,←Nat.mul_assoc];generalize (U/a).succ*b=z;generalize hz:(U/a+1)*a=t at*;omega
  · apply Nat.le_of_lt_succ;rw [Nat.div_lt_iff_lt_mul (by omega)];omega
theorem Half.over (h:Half Y a b U d)(e:q*a+r=U)(hq:q≤4294967296)(hr:4294967296≤r):q≤(U*4294967296+d)/Y:=by
  rw [Nat.le_div_iff_mul_le h.ypos,h.y,Nat.mul_add,←Nat.mul_assoc];have h1:q*b≤4294967296*r:=Nat.mul_le_mul hq (by have:=h.b;omega);generalize q*a=m at*;generalize q*b=n at*;omega
theorem two (Y U d0 d1:Nat)(hY:0<Y):((U*4294967296+d1)%Y*4294967296+d0)%Y=(U*18446744073709551616+d1*4294967296+d0)%Y:=by
  have e:U*18446744073709551616+d1*4294967296+d0=(U*4294967296+d1)*4294967296+d0:=by omega
  rw [e,Nat.add_mod,Nat.mod_mul_mod,←Nat.add_mod]
theorem left (z Y:Nat)(hY:Y<18446744073709551616)(h0:0<Y):(((z:Int)%18446744073709551616)-(((z/Y)*Y:Nat):Int)%18446744073709551616)%18446744073709551616=((z%Y:Nat):Int):=by
  have e:=Nat.div_add_mod z Y;rw [Nat.mul_comm] at e;have l:=Nat.mod_lt z h0;generalize z/Y*Y=t at*;generalize z%Y=u at*;omega
theorem shifted (x y s:Nat):(x*2^s)%(y*2^s)/2^s=x%y:=by
  rw [Nat.mul_mod_mul_right,Nat.mul_div_cancel _ (Nat.two_pow_pos s)]
theorem words (hi lo y s:Nat)(hs:s≤63)(hlo:lo<18446744073709551616)(hh:hi<y)(hy:y*2^s<18446744073709551616):
    hi*2^s<18446744073709551616∧lo/2^(64-s)<2^s∧hi*2^s+lo/2^(64-s)<y*2^s∧
    (hi*2^s+lo/2^(64-s))*18446744073709551616+lo*2^s%18446744073709551616=(hi*18446744073709551616+lo)*2^s:=by
  have hp:=Nat.two_pow_pos s;have e1:(hi+1)*2^s≤y*2^s:=Nat.mul_le_mul_right _ hh;rw [Nat.add_mul,Nat.one_mul] at e1;have e2:(2:Nat)^(64-s)*2^s=18446744073709551616:=by rw [←Nat.pow_add,show 64-s+s=64 by omega]
  have e3:lo/2^(64-s)<2^s:=by
    rw [Nat.div_lt_iff_lt_mul (Nat.two_pow_pos _),Nat.mul_comm,e2];exact hlo
  have e4:lo*2^s/18446744073709551616=lo/2^(64-s):=by
    rw [←e2,Nat.mul_div_mul_right _ _ hp]
  refine⟨by omega,e3,by omega,?_⟩;rw [←e4,Nat.add_mul,Nat.add_mul,Nat.mul_right_comm hi];have:=Nat.div_add_mod (lo*2^s) 18446744073709551616;generalize hi*2^s=t at*;generalize lo*2^s=u at*;omega
end Dv
theorem div_zero (lo y:Nat)(w:World)(hy:0<y):
    Calls prog 111 #[int u64 0,int u64 lo,int u64 y] w fun e w'=>(∃z:Int,e= .returned (.tuple #[int u64 z,int u64 ((lo%y:Nat):Int)]))∧(w'=w∨w'=w.drew):=by
  have z0:((y:Int)==0)=false:=by simp;omega
  have z1: ¬ ((y:Int)≤0):=by omega
  go_enter func111,ntmps111;go_wp2
  go_region
  go_wp2;go_ret2;exact⟨⟨IntKind.u64.wrap ((lo:Int)/(y:Int)),by simp⟩,.inr rfl⟩
theorem prep (hi lo y s:Nat)(h0:0<hi)(hh:hi<y)(hy:y<18446744073709551616)(hlo:lo<18446744073709551616)(hs:s=64-Lib.bitLen y):
    s ≤63∧∃Y a b H T U X d1 d0:Nat,IntKind.u64.wrap ((y:Int)*2^s)=Y∧(Y:Int)/4294967296=a∧bits .and .u64 (Y:Int) 4294967295=b∧
      IntKind.u64.wrap ((hi:Int)*2^s)=H∧(lo:Int)/2^(64-s)=T∧bits .or .u64 (H:Int) (T:Int)=U∧IntKind.u64.wrap ((lo:Int)*2^s)=X∧
      (X:Int)/4294967296=d1∧bits .and .u64 (X:Int) 4294967295=d0∧Dv.Half Y a b U d1∧Y<18446744073709551616∧d0<4294967296∧
      (U*18446744073709551616+d1*4294967296+d0)%Y/2^s=(hi*18446744073709551616+lo)%y:=by
  obtain⟨b1,b2⟩:=len_lo 64 y (by omega) (by omega);have b3:=len_up 64 y (by omega);have b4:=len_le y (by omega);change 1≤Lib.bitLen y at b1;change 2^(Lib.bitLen y-1)≤y at b2;change y<2^(Lib.bitLen y) at b3;generalize Lib.bitLen y=L at*;have hs63:s≤63:=by omega
  have p1:(2:Nat)^L*2^s=18446744073709551616:=by rw [←Nat.pow_add,show L+s=64 by omega]
  have p2:(2:Nat)^(L-1)*2^s=9223372036854775808:=by rw [←Nat.pow_add,show L-1+s=63 by omega]
  have q1:y*2^s<18446744073709551616:=by rw [←p1];exact Nat.mul_lt_mul_of_pos_right b3 (Nat.two_pow_pos s)
  have q2:9223372036854775808≤y*2^s:=by rw [←p2];exact Nat.mul_le_mul_right _ b2
  obtain⟨w1,w2,w3,w4⟩:=Dv.words hi lo y s hs63 hlo hh q1;have c:∀n:Nat,(n:Int)*2^s=((n*2^s:Nat):Int):=fun n=>by simp
  have c2:(lo:Int)/2^(64-s)=((lo/2^(64-s):Nat):Int):=by simp
  have e6:=orN (hi*2^s) (lo/2^(64-s)) w1 (by omega);rw [Dv.or_add _ _ _ w2] at e6;have e1:IntKind.u64.wrap ((y:Int)*2^s)=((y*2^s:Nat):Int):=by rw [c,wrapM,Nat.mod_eq_of_lt q1]
  have e4:IntKind.u64.wrap ((hi:Int)*2^s)=((hi*2^s:Nat):Int):=by rw [c,wrapM,Nat.mod_eq_of_lt w1]
  have e7:IntKind.u64.wrap ((lo:Int)*2^s)=((lo*2^s%18446744073709551616:Nat):Int):=by rw [c,wrapM]
  have e3:=maskN (y*2^s) q1;have e9:=maskN (lo*2^s%18446744073709551616) (Nat.mod_lt _ (by decide));have sh:=Dv.shifted (hi*18446744073709551616+lo) y s;rw [←w4] at sh;refine⟨hs63,y*2^s,y*2^s/4294967296,y*2^s%4294967296,hi*2^s,lo/2^(64-s),hi*2^s+lo/2^(64-s),lo*2^s%18446744073709551616,lo*2^s%18446744073709551616/4294967296,lo*2^s%18446744073709551616%4294967296,e1,?_,e3,e4,c2,e6,e7,?_,e9,⟨?_,?_,?_,?_,?_,?_⟩,q1,?_,?_⟩
  · generalize y*2^s=Y at*;omega
  · generalize lo*2^s%18446744073709551616=Y at*;omega
  · generalize y*2^s=Y at*;omega
  · generalize y*2^s=Y at*;omega
  · generalize y*2^s=Y at*;omega
  · generalize y*2^s=Y at*;omega
  · exact w3
  · have:=Nat.mod_lt (lo*2^s) (show 0<18446744073709551616 by decide);clear e1 e3 e4 e6 e7 e9 c c2 sh w4;generalize lo*2^s%18446744073709551616=Y at*;omega
  · generalize lo*2^s%18446744073709551616=Y at*;omega
  · rw [←sh];clear e1 e3 e4 e6 e7 e9 c c2 sh w4;generalize hi*2^s+lo/2^(64-s)=U;generalize lo*2^s%18446744073709551616=X;have:U*18446744073709551616+X/4294967296*4294967296+X%4294967296=U*18446744073709551616+X:=by omega
    rw [this]
theorem turn {Y a b U d q r:Nat}(h:Dv.Half Y a b U d)(i1:q*a+r=U)(i2:(U*4294967296+d)/Y≤q)(i3:q≤4294967297)(i4:r<4294967296):
    (∃n z v:Nat,¬ ((4294967296:Int)≤q)∧IntKind.u64.wrap ((q:Int)*(b:Int))=n∧IntKind.u64.wrap (4294967296*(r:Int))=z∧IntKind.u64.wrap ((z:Int)+(d:Int))=v∧
      (¬ ((v:Int)<(n:Int))∧q=(U*4294967296+d)/Y∨(v:Int)<(n:Int)∧(U*4294967296+d)/Y<q))∨((4294967296:Int)≤q∧(U*4294967296+d)/Y<q):=by
  have hb:=h.b;have hd:=h.d;by_cases k1:4294967296≤q
  · exact .inr ⟨by omega,by have:=h.small;omega⟩
  · refine .inl ⟨q*b,4294967296*r,4294967296*r+d,by omega,?_,?_,?_,?_⟩
    · rw [←Int.natCast_mul,wrapM,Nat.mod_eq_of_lt];have:q*b≤4294967295*4294967295:=Nat.mul_le_mul (by omega) (by omega);omega
    · rw [IntKind.wrap_u64];omega
    · rw [IntKind.wrap_u64];omega
    · have e:=h.less (q:=q) (r:=r) i1;by_cases k2:4294967296*r+d<q*b
      · exact .inr ⟨by omega,e.2 k2⟩
      · refine .inl ⟨by omega,?_⟩;have: ¬ (U*4294967296+d)/Y<q:=fun h=>k2 (e.1 h)
        omega
theorem turned {Y a b U d q r:Nat}(h:Dv.Half Y a b U d)(i1:q*a+r=U)(i3:q≤4294967297)(i4:r<4294967296)(k:(U*4294967296+d)/Y<q):
    ∃ p t:Nat,IntKind.u64.wrap ((q:Int)-1)=p∧IntKind.u64.wrap ((r:Int)+(a:Int))=t∧p<q∧
      ((4294967296:Int)≤t∧p=(U*4294967296+d)/Y∨ ¬ ((4294967296:Int)≤t)∧(p*a+t=U∧(U*4294967296+d)/Y≤p∧p≤4294967297∧t<4294967296)):=by
  have ha:=h.a1;have ho:∀p t,p*a+t=U→p≤4294967296→4294967296≤t→p≤(U*4294967296+d)/Y:=fun p t=>h.over
  generalize (U*4294967296+d)/Y=Q at*;obtain⟨p,rfl⟩:∃p,q=p+1:=⟨q-1,by omega⟩;have e:p*a+(r+a)=U:=by rw [←i1,Nat.add_mul,Nat.one_mul];omega
  refine⟨p,r+a,by rw [IntKind.wrap_u64];omega,by rw [IntKind.wrap_u64];omega,by omega,?_⟩;by_cases k3:4294967296≤r+a
  · refine .inl ⟨by omega,?_⟩;have:=ho _ _ e (by omega) k3;omega
  · exact .inr ⟨by omega,e,by omega,by omega,by omega⟩
theorem rest {Y a b U d k:Nat}(h:Dv.Half Y a b U d)(hY:Y<18446744073709551616)(hk:k=(U*4294967296+d)/Y):
    ∃A1 A2 A3 V:Nat,IntKind.u64.wrap ((U:Int)*4294967296)=A1∧IntKind.u64.wrap ((A1:Int)+(d:Int))=A2∧IntKind.u64.wrap ((k:Int)*(Y:Int))=A3∧IntKind.u64.wrap ((A2:Int)-(A3:Int))=V∧V=(U*4294967296+d)%Y:=by
  have e:=Dv.left (U*4294967296+d) Y hY h.ypos;rw [←hk] at e;refine⟨U*4294967296%18446744073709551616,(U*4294967296+d)%18446744073709551616,k*Y%18446744073709551616,(U*4294967296+d)%Y,?_,?_,?_,?_,rfl⟩
  · rw [IntKind.wrap_u64];omega
  · rw [IntKind.wrap_u64];omega
  · rw [←Int.natCast_mul,wrapM]
  · rw [IntKind.wrap_u64,←e];generalize k*Y=z;omega
theorem guess {Y a b U d:Nat}(hf:Dv.Half Y a b U d)(hY:Y<18446744073709551616):
    ∃ q r m:Nat,(U:Int)/(a:Int)=q∧IntKind.u64.wrap (q:Int)=q∧IntKind.u64.wrap ((q:Int)*(a:Int))=m∧IntKind.u64.wrap ((U:Int)-(m:Int))=r∧
      (q*a+r=U∧(U*4294967296+d)/Y≤q∧q≤4294967297∧r<4294967296):=by
  have ha0:=hf.a0;have ha1:=hf.a1;have hu:=hf.u;have hst:=hf.start;have hd:=Nat.div_add_mod U a;have hl:=Nat.mod_lt U (show 0<a by omega);have hql:U/a≤U:=Nat.div_le_self _ _;refine⟨U/a,U%a,U/a*a,by simp,?_,?_,?_,?_,hst.1,hst.2,by omega⟩
  · rw [wrapM,Nat.mod_eq_of_lt (by omega)]
  · rw [←Int.natCast_mul,wrapM,Nat.mod_eq_of_lt];rw [Nat.mul_comm];generalize a*(U/a)=z at*;omega
  · rw [Nat.mul_comm a] at hd;generalize U/a*a=z at*;rw [IntKind.wrap_u64];omega
  · rw [Nat.mul_comm a] at hd;exact hd
theorem div_more (hi lo y:Nat)(w:World)(h0:0<hi)(hh:hi<y)(hy:y<18446744073709551616)(hlo:lo<18446744073709551616):
    Calls prog 111 #[int u64 hi,int u64 lo,int u64 y] w fun e w'=>(∃z:Int,e= .returned (.tuple #[int u64 z,int u64 (((hi*18446744073709551616+lo)%y:Nat):Int)]))∧(w'=w∨w'=w.drew):=by
  have z0:((y:Int)==0)=false:=by simp;omega
  have z1: ¬ ((y:Int)≤(hi:Int)):=by omega
  have z2:((hi:Int)==0)=false:=by simp;omega
  have L:=lead_any y hy;obtain⟨s,hs⟩:∃s,s=64-Lib.bitLen y:=⟨_,rfl⟩;obtain⟨hs63,Y,a,b,H,T,U,X,d1,d0,e1,e2,e3,e4,e5,e6,e7,e8,e9,hf,hY,hd0,hres⟩:=prep hi lo y s h0 hh hy hlo hs;rw [←hs] at L;obtain⟨res,hr'⟩:∃res,res=(hi*18446744073709551616+lo)%y:=⟨_,rfl⟩;rw [←hr'] at hres⊢;clear hr';have hres:Hid ((U*18446744073709551616+d1*4294967296+d0)%Y/2^s=res):=hres;have z4: ¬ (a=0):=by have:=hf.a0;omega
  obtain⟨q,r,m,f1,f2,f3,f4,f5⟩:=guess hf hY;have hF:Hid (q*a+r=U∧(U*4294967296+d1)/Y≤q∧q≤4294967297∧r<4294967296):=f5;have hHf:Hid (Dv.Half Y a b U d1∧Y<18446744073709551616∧d0<4294967296):=⟨hf,hY,hd0⟩;clear hs hh h0 hlo hy hY hd0 hf f5;go_enter func111,ntmps111;go_wp2_with fail;refine(L _).mono ?_;rintro e w' ⟨rfl,rfl⟩;clear L;go_wp2
  go_loop [15,16] (fun qv rv=>∃q r:Nat,qv=int u64 (q:Int)∧rv=int u64 (r:Int)∧Hid (q*a+r=U∧(U*4294967296+d1)/Y≤q∧q≤4294967297∧r<4294967296)) (fun qv _=>(intOf qv).toNat)
  case atStart=>exact ⟨q,r,rfl,rfl,hF⟩
  case round=>
    clear f1 f2 f3 f4 hF;obtain⟨g,x,rfl,rfl,hI⟩:=hrel;obtain⟨i1,i2,i3,i4⟩:=hI.out;rcases turn hHf.out.1 i1 i2 i3 i4 with ⟨n,z,v,j1,j2,j3,j4,⟨j5,j6⟩|⟨j5,j6⟩⟩|⟨j1,j6⟩
    case inl.inl=>
      have hx:Hid (g=(U*4294967296+d1)/Y):=j6;clear hI i1 i2 i3 i4 j6;obtain⟨A1,A2,A3,V,n1,n2,n3,n4,n5⟩:=rest hHf.out.1 hHf.out.2.1 hx.out;have hg:Hid (Dv.Half Y a b V d0∧Y<18446744073709551616∧V=(U*4294967296+d1)%Y):=⟨⟨hHf.out.1.y,hHf.out.1.b,hHf.out.1.a0,hHf.out.1.a1,by rw [n5];exact Nat.mod_lt _ hHf.out.1.ypos,hHf.out.2.2⟩,hHf.out.2.1,n5⟩;obtain⟨q2,r2,m2,g1,g2,g3,g4,g5⟩:=guess hg.out.1 hg.out.2.1;have hG:Hid (q2*a+r2=V∧(V*4294967296+d0)/Y≤q2∧q2≤4294967297∧r2<4294967296):=g5;clear hx n5 hHf g5;go_wp2
      go_loop [18,16] (fun qv rv=>∃q r:Nat,qv=int u64 (q:Int)∧rv=int u64 (r:Int)∧Hid (q*a+r=V∧(V*4294967296+d0)/Y≤q∧q≤4294967297∧r<4294967296)) (fun qv _=>(intOf qv).toNat)
      case atStart=>exact ⟨q2,r2,rfl,rfl,hG⟩
      case round=>
        clear g1 g2 g3 g4 hG n1 n2 n3 n4;obtain⟨g',x',rfl,rfl,hI⟩:=hrel;obtain⟨i1,i2,i3,i4⟩:=hI.out;rcases turn hg.out.1 i1 i2 i3 i4 with ⟨n',z',v',j1,j2,j3,j4,⟨j5,j6⟩|⟨j5,j6⟩⟩|⟨j1,j6⟩
        case inl.inl=>
          have hx:Hid (g'=(V*4294967296+d0)/Y):=j6;clear hI i1 i2 i3 i4 j6;obtain⟨C1,C2,C3,R,s1,s2,s3,s4,s5⟩:=rest hg.out.1 hg.out.2.1 hx.out;have s6:(R:Int)/2^s=((R/2^s:Nat):Int):=by simp
          have s7:R/2^s=res:=by rw [s5,hg.out.2.2,Dv.two _ _ _ _ hg.out.1.ypos];exact hres.out
          rw [s7] at s6;clear s5 hx s7;go_wp2;go_ret2;exact⟨⟨_,ret_two rfl rfl⟩,.inl rfl⟩
        case inl.inr=>
          obtain⟨p',t',j7,j8,j9,⟨j10,j11⟩|⟨j10,j11⟩⟩:=turned hg.out.1 i1 i3 i4 j6
          · have hx:Hid (p'=(V*4294967296+d0)/Y):=j11;clear hI i1 i2 i3 i4 j11 j9 j6;obtain⟨C1,C2,C3,R,s1,s2,s3,s4,s5⟩:=rest hg.out.1 hg.out.2.1 hx.out;have s6:(R:Int)/2^s=((R/2^s:Nat):Int):=by simp
            have s7:R/2^s=res:=by rw [s5,hg.out.2.2,Dv.two _ _ _ _ hg.out.1.ypos];exact hres.out
            rw [s7] at s6;clear s5 hx s7;go_wp2;go_ret2;exact⟨⟨_,ret_two rfl rfl⟩,.inl rfl⟩
          · have hx:Hid (p'*a+t'=V∧(V*4294967296+d0)/Y≤p'∧p'≤4294967297∧t'<4294967296):=j11;clear hI i1 i2 i3 i4 j11 j6;go_wp2;go_round
            case rel=>exact ⟨p',t',rfl,rfl,hx⟩
            case measure=>simp [intOf];omega
        case inr=>
          obtain⟨p',t',j7,j8,j9,⟨j10,j11⟩|⟨j10,j11⟩⟩:=turned hg.out.1 i1 i3 i4 j6
          · have hx:Hid (p'=(V*4294967296+d0)/Y):=j11;clear hI i1 i2 i3 i4 j11 j9 j6;obtain⟨C1,C2,C3,R,s1,s2,s3,s4,s5⟩:=rest hg.out.1 hg.out.2.1 hx.out;have s6:(R:Int)/2^s=((R/2^s:Nat):Int):=by simp
            have s7:R/2^s=res:=by rw [s5,hg.out.2.2,Dv.two _ _ _ _ hg.out.1.ypos];exact hres.out
            rw [s7] at s6;clear s5 hx s7;go_wp2;go_ret2;exact⟨⟨_,ret_two rfl rfl⟩,.inl rfl⟩
          · have hx:Hid (p'*a+t'=V∧(V*4294967296+d0)/Y≤p'∧p'≤4294967297∧t'<4294967296):=j11;clear hI i1 i2 i3 i4 j11 j6;go_wp2;go_round
            case rel=>exact ⟨p',t',rfl,rfl,hx⟩
            case measure=>simp [intOf];omega
    case inl.inr=>
      obtain⟨p,t,j7,j8,j9,⟨j10,j11⟩|⟨j10,j11⟩⟩:=turned hHf.out.1 i1 i3 i4 j6
      · have hx:Hid (p=(U*4294967296+d1)/Y):=j11;clear hI i1 i2 i3 i4 j11 j9 j6;obtain⟨A1,A2,A3,V,n1,n2,n3,n4,n5⟩:=rest hHf.out.1 hHf.out.2.1 hx.out;have hg:Hid (Dv.Half Y a b V d0∧Y<18446744073709551616∧V=(U*4294967296+d1)%Y):=⟨⟨hHf.out.1.y,hHf.out.1.b,hHf.out.1.a0,hHf.out.1.a1,by rw [n5];exact Nat.mod_lt _ hHf.out.1.ypos,hHf.out.2.2⟩,hHf.out.2.1,n5⟩;obtain⟨q2,r2,m2,g1,g2,g3,g4,g5⟩:=guess hg.out.1 hg.out.2.1;have hG:Hid (q2*a+r2=V∧(V*4294967296+d0)/Y≤q2∧q2≤4294967297∧r2<4294967296):=g5;clear hx n5 hHf g5;go_wp2
        go_loop [18,16] (fun qv rv=>∃q r:Nat,qv=int u64 (q:Int)∧rv=int u64 (r:Int)∧Hid (q*a+r=V∧(V*4294967296+d0)/Y≤q∧q≤4294967297∧r<4294967296)) (fun qv _=>(intOf qv).toNat)
        case atStart=>exact ⟨q2,r2,rfl,rfl,hG⟩
        case round=>
          clear g1 g2 g3 g4 hG n1 n2 n3 n4;obtain⟨g',x',rfl,rfl,hI⟩:=hrel;obtain⟨i1,i2,i3,i4⟩:=hI.out;rcases turn hg.out.1 i1 i2 i3 i4 with ⟨n',z',v',j1,j2,j3,j4,⟨j5,j6⟩|⟨j5,j6⟩⟩|⟨j1,j6⟩
          case inl.inl=>
            have hx:Hid (g'=(V*4294967296+d0)/Y):=j6;clear hI i1 i2 i3 i4 j6;obtain⟨C1,C2,C3,R,s1,s2,s3,s4,s5⟩:=rest hg.out.1 hg.out.2.1 hx.out;have s6:(R:Int)/2^s=((R/2^s:Nat):Int):=by simp
            have s7:R/2^s=res:=by rw [s5,hg.out.2.2,Dv.two _ _ _ _ hg.out.1.ypos];exact hres.out
            rw [s7] at s6;clear s5 hx s7;go_wp2;go_ret2;exact⟨⟨_,ret_two rfl rfl⟩,.inl rfl⟩
          case inl.inr=>
            obtain⟨p',t',j7,j8,j9,⟨j10,j11⟩|⟨j10,j11⟩⟩:=turned hg.out.1 i1 i3 i4 j6
            · have hx:Hid (p'=(V*4294967296+d0)/Y):=j11;clear hI i1 i2 i3 i4 j11 j9 j6;obtain⟨C1,C2,C3,R,s1,s2,s3,s4,s5⟩:=rest hg.out.1 hg.out.2.1 hx.out;have s6:(R:Int)/2^s=((R/2^s:Nat):Int):=by simp
              have s7:R/2^s=res:=by rw [s5,hg.out.2.2,Dv.two _ _ _ _ hg.out.1.ypos];exact hres.out
              rw [s7] at s6;clear s5 hx s7;go_wp2;go_ret2;exact⟨⟨_,ret_two rfl rfl⟩,.inl rfl⟩
            · have hx:Hid (p'*a+t'=V∧(V*4294967296+d0)/Y≤p'∧p'≤4294967297∧t'<4294967296):=j11;clear hI i1 i2 i3 i4 j11 j6;go_wp2;go_round
              case rel=>exact ⟨p',t',rfl,rfl,hx⟩
              case measure=>simp [intOf];omega
          case inr=>
            obtain⟨p',t',j7,j8,j9,⟨j10,j11⟩|⟨j10,j11⟩⟩:=turned hg.out.1 i1 i3 i4 j6
            · have hx:Hid (p'=(V*4294967296+d0)/Y):=j11;clear hI i1 i2 i3 i4 j11 j9 j6;obtain⟨C1,C2,C3,R,s1,s2,s3,s4,s5⟩:=rest hg.out.1 hg.out.2.1 hx.out;have s6:(R:Int)/2^s=((R/2^s:Nat):Int):=by simp
              have s7:R/2^s=res:=by rw [s5,hg.out.2.2,Dv.two _ _ _ _ hg.out.1.ypos];exact hres.out
              rw [s7] at s6;clear s5 hx s7;go_wp2;go_ret2;exact⟨⟨_,ret_two rfl rfl⟩,.inl rfl⟩
            · have hx:Hid (p'*a+t'=V∧(V*4294967296+d0)/Y≤p'∧p'≤4294967297∧t'<4294967296):=j11;clear hI i1 i2 i3 i4 j11 j6;go_wp2;go_round
              case rel=>exact ⟨p',t',rfl,rfl,hx⟩
              case measure=>simp [intOf];omega
      · have hx:Hid (p*a+t=U∧(U*4294967296+d1)/Y≤p∧p≤4294967297∧t<4294967296):=j11;clear hI i1 i2 i3 i4 j11 j6;go_wp2;go_round
        case rel=>exact ⟨p,t,rfl,rfl,hx⟩
        case measure=>simp [intOf];omega
    case inr=>
      obtain⟨p,t,j7,j8,j9,⟨j10,j11⟩|⟨j10,j11⟩⟩:=turned hHf.out.1 i1 i3 i4 j6
      · have hx:Hid (p=(U*4294967296+d1)/Y):=j11;clear hI i1 i2 i3 i4 j11 j9 j6;obtain⟨A1,A2,A3,V,n1,n2,n3,n4,n5⟩:=rest hHf.out.1 hHf.out.2.1 hx.out;have hg:Hid (Dv.Half Y a b V d0∧Y<18446744073709551616∧V=(U*4294967296+d1)%Y):=⟨⟨hHf.out.1.y,hHf.out.1.b,hHf.out.1.a0,hHf.out.1.a1,by rw [n5];exact Nat.mod_lt _ hHf.out.1.ypos,hHf.out.2.2⟩,hHf.out.2.1,n5⟩;obtain⟨q2,r2,m2,g1,g2,g3,g4,g5⟩:=guess hg.out.1 hg.out.2.1;have hG:Hid (q2*a+r2=V∧(V*4294967296+d0)/Y≤q2∧q2≤4294967297∧r2<4294967296):=g5;clear hx n5 hHf g5;go_wp2
        go_loop [18,16] (fun qv rv=>∃q r:Nat,qv=int u64 (q:Int)∧rv=int u64 (r:Int)∧Hid (q*a+r=V∧(V*4294967296+d0)/Y≤q∧q≤4294967297∧r<4294967296)) (fun qv _=>(intOf qv).toNat)
        case atStart=>exact ⟨q2,r2,rfl,rfl,hG⟩
        case round=>
          clear g1 g2 g3 g4 hG n1 n2 n3 n4;obtain⟨g',x',rfl,rfl,hI⟩:=hrel;obtain⟨i1,i2,i3,i4⟩:=hI.out;rcases turn hg.out.1 i1 i2 i3 i4 with ⟨n',z',v',j1,j2,j3,j4,⟨j5,j6⟩|⟨j5,j6⟩⟩|⟨j1,j6⟩
          case inl.inl=>
            have hx:Hid (g'=(V*4294967296+d0)/Y):=j6;clear hI i1 i2 i3 i4 j6;obtain⟨C1,C2,C3,R,s1,s2,s3,s4,s5⟩:=rest hg.out.1 hg.out.2.1 hx.out;have s6:(R:Int)/2^s=((R/2^s:Nat):Int):=by simp
            have s7:R/2^s=res:=by rw [s5,hg.out.2.2,Dv.two _ _ _ _ hg.out.1.ypos];exact hres.out
            rw [s7] at s6;clear s5 hx s7;go_wp2;go_ret2;exact⟨⟨_,ret_two rfl rfl⟩,.inl rfl⟩
          case inl.inr=>
            obtain⟨p',t',j7,j8,j9,⟨j10,j11⟩|⟨j10,j11⟩⟩:=turned hg.out.1 i1 i3 i4 j6
            · have hx:Hid (p'=(V*4294967296+d0)/Y):=j11;clear hI i1 i2 i3 i4 j11 j9 j6;obtain⟨C1,C2,C3,R,s1,s2,s3,s4,s5⟩:=rest hg.out.1 hg.out.2.1 hx.out;have s6:(R:Int)/2^s=((R/2^s:Nat):Int):=by simp
              have s7:R/2^s=res:=by rw [s5,hg.out.2.2,Dv.two _ _ _ _ hg.out.1.ypos];exact hres.out
              rw [s7] at s6;clear s5 hx s7;go_wp2;go_ret2;exact⟨⟨_,ret_two rfl rfl⟩,.inl rfl⟩
            · have hx:Hid (p'*a+t'=V∧(V*4294967296+d0)/Y≤p'∧p'≤4294967297∧t'<4294967296):=j11;clear hI i1 i2 i3 i4 j11 j6;go_wp2;go_round
              case rel=>exact ⟨p',t',rfl,rfl,hx⟩
              case measure=>simp [intOf];omega
          case inr=>
            obtain⟨p',t',j7,j8,j9,⟨j10,j11⟩|⟨j10,j11⟩⟩:=turned hg.out.1 i1 i3 i4 j6
            · have hx:Hid (p'=(V*4294967296+d0)/Y):=j11;clear hI i1 i2 i3 i4 j11 j9 j6;obtain⟨C1,C2,C3,R,s1,s2,s3,s4,s5⟩:=rest hg.out.1 hg.out.2.1 hx.out;have s6:(R:Int)/2^s=((R/2^s:Nat):Int):=by simp
              have s7:R/2^s=res:=by rw [s5,hg.out.2.2,Dv.two _ _ _ _ hg.out.1.ypos];exact hres.out
              rw [s7] at s6;clear s5 hx s7;go_wp2;go_ret2;exact⟨⟨_,ret_two rfl rfl⟩,.inl rfl⟩
            · have hx:Hid (p'*a+t'=V∧(V*4294967296+d0)/Y≤p'∧p'≤4294967297∧t'<4294967296):=j11;clear hI i1 i2 i3 i4 j11 j6;go_wp2;go_round
              case rel=>exact ⟨p',t',rfl,rfl,hx⟩
              case measure=>simp [intOf];omega
      · have hx:Hid (p*a+t=U∧(U*4294967296+d1)/Y≤p∧p≤4294967297∧t<4294967296):=j11;clear hI i1 i2 i3 i4 j11 j6;go_wp2;go_round
        case rel=>exact ⟨p,t,rfl,rfl,hx⟩
        case measure=>simp [intOf];omega
theorem div_any (hi lo y:Nat)(w:World)(hh:hi<y)(hy:y<18446744073709551616)(hlo:lo<18446744073709551616):
    Calls prog 111 #[int u64 hi,int u64 lo,int u64 y] w fun e w'=>(∃z:Int,e= .returned (.tuple #[int u64 z,int u64 (((hi*18446744073709551616+lo)%y:Nat):Int)]))∧(w'=w∨w'=w.drew):=by
  by_cases h0:hi=0
  · subst h0;rw [Nat.zero_mul,Nat.zero_add];exact div_zero lo y w hh
  · exact div_more hi lo y w (by omega) hh hy hlo
theorem numL_lt (l:List Int)(h:∀x∈l,0≤x∧x<256):numL l<256^l.length:=by
  suffices∀(l:List Int) (a n:Nat),(∀x∈l,0≤x∧x<256)→a<256^n→l.foldl (fun r x=>r*256+x.toNat) a<256^(n+l.length) by
    have:=this l 0 0 h (by decide);rwa [Nat.zero_add] at this
  intro l
  induction l with
  |nil=>intro a n _ h;simpa using h
  | cons x l ih=>
    intro a n hx ha
    have:=ih (a*256+x.toNat) (n+1) (fun y hy=>hx y (List.mem_cons_of_mem _ hy)) (by
      have:=hx x List.mem_cons_self
      rw [Nat.pow_succ];omega)
    rw [List.foldl_cons,List.length_cons,show n+(l.length+1)=n+1+l.length by omega];exact this
theorem numL_take_lt (s:ByteArray)(k:Nat)(hk:k<8):numL ((byt s).take k)<72057594037927936:=by
  have h1:=numL_lt ((byt s).take k) (fun x hx=>byt_lt s x (List.mem_of_mem_take hx));have h2:(256:Nat)^((byt s).take k).length≤256^7:=Nat.pow_le_pow_right (by decide) (by rw [List.length_take];omega);have:(256:Nat)^7=72057594037927936:=by decide
  omega
theorem numL_8 (s:ByteArray)(h:s.size=8):numL (byt s)<18446744073709551616:=by
  have h1:=numL_lt (byt s) (byt_lt s);rw [byt_length,h] at h1;have:(256:Nat)^8=18446744073709551616:=by decide
  omega
theorem or_byte (z:Nat)(v:UInt8):bits .or .u64 (IntKind.u64.wrap ((z:Int)*256)) ((v.toNat:Nat):Int)=((z*256%18446744073709551616+v.toNat:Nat):Int):=by
  have hv:=v.toNat_lt;have e:IntKind.u64.wrap ((z:Int)*256)=((z*256%18446744073709551616:Nat):Int):=by rw [IntKind.wrap_u64];omega
  rw [e,orN _ _ (Nat.mod_lt _ (by decide)) (by omega)];have e2:z*256%18446744073709551616=z%72057594037927936*2^8:=by omega
  rw [e2,Dv.or_add _ _ 8 (by omega)]
end Go.Proofs.YtmjniccfjffclaaGreatDoor
