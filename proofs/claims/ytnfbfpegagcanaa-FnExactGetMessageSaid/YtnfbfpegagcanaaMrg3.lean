import Derived.Test.YtnfbfpegagcanaaMrg2
import Derived.RangeFuncNested
import Derived.RangeFuncBound
import Derived.Shelf.RegionOpen
import Derived.OwnWalkIn
import Derived.LoopNIn
import Derived.LoopIn
set_option linter.unusedVariables false
set_option maxRecDepth 100000
set_option maxHeartbeats 16000000
namespace Go.Proofs.Ytnfbfpegagcanaa
open Go.Proofs.Try Go.RowKit
open Go.Value (int)
open Go.IntKind (u64)
theorem wdI_any (s:ByteArray)(w:World)(hs:s.size=8):
    Calls prog 60 #[.string s] w fun e w'=>e= .returned (int u64 (numL (byt s):Nat))∧w=w':=by
  obtain⟨c,hc⟩:∃c,Hid (c=numL (byt s)):=⟨_,rfl⟩;rw [←hc.out];go_enter func60,ntmps60;go_wp2
  go_loop [3,7] (fun rv iv=>∃(k r:Nat),k≤8∧iv= .int .i64 (k:Int)∧rv=int u64 (r:Int)∧Hid (r=numL ((byt s).take k))) (fun _ i=>8-(intOf i).toNat)
  case atStart=>exact ⟨0,0,by omega,rfl,rfl,by simp [Hid,numL]⟩
  case round=>
    obtain⟨k,r,hk,rfl,rfl,hr⟩:=hrel;by_cases hlt:k<8
    · have hlt':k<s.size:=by omega
      have hlti:(k:Int)<(s.size:Int):=by omega
      have hv:=s[k].toNat_lt;have hl:=numL_take_lt s k hlt;rw [←hr.out] at hl;have e0:IntKind.u64.wrap (s[k].toNat:Int)=(s[k].toNat:Int):=by simp only [IntKind.wrap_u64];omega
      have e1:=or_byte r s[k];rw [Nat.mod_eq_of_lt (show r*256<18446744073709551616 by omega)] at e1;have hn:Hid (r*256+s[k].toNat=numL ((byt s).take (k+1))):=by simp only [Hid];rw [numL_take s k hlt',←hr.out]
      generalize r*256+s[k].toNat=r' at*;clear hl hv;go_wp2;go_round
      case rel=>exact ⟨k+1,r',by omega,by go_num,rfl,hn⟩
      case measure=>simp [intOf];omega
    · obtain rfl:k=8:=by omega
      rw [List.take_of_length_le (by rw [byt_length];omega)] at hr;go_wp2;go_ret;exact⟨ret_u64 (by rw [hc.out,hr.out]),rfl⟩
theorem len_le (x:Nat)(hx:x<2^64):Lib.bitLen x≤64:=Lib.bitLen_le x 64 (Nat.le_refl _) hx
theorem len_up:∀(f x:Nat),x<2^f→x<2^(Lib.bitLenAux f x)
  |0,x,h=>by simpa [Lib.bitLenAux] using h
  | f+1,x,h=>by
    unfold Lib.bitLenAux;split
    · subst_vars;simp
    · have:=len_up f (x/2) (by rw [Nat.pow_succ] at h;omega);rw [Nat.add_comm,Nat.pow_succ];omega
theorem len_lo:∀(f x:Nat),x≠0→x<2^f→1≤Lib.bitLenAux f x∧2^(Lib.bitLenAux f x-1)≤x
  |0,x,h0,h=>by simp at h;omega
  | f +1,x,h0,h=>by
    unfold Lib.bitLenAux;rw [if_neg h0];refine⟨by omega,?_⟩;rw [Nat.add_sub_cancel_left];by_cases h2:x/2=0
    · rw [h2];have:Lib.bitLenAux f 0=0:=by cases f<;>simp [Lib.bitLenAux]
      rw [this];omega
    · obtain⟨q1,q2⟩:=len_lo f (x/2) h2 (by rw [Nat.pow_succ] at h;omega);have:Lib.bitLenAux f (x/2)=(Lib.bitLenAux f (x/2)-1)+1:=by omega
      rw [this,Nat.pow_succ];omega
theorem ret_i64 {a b:Int}(h:a=b):Ending.returned (.int .i64 a)= .returned (.int .i64 b):=by rw [h]
theorem get8 (i:Nat)(h:i<Lib.len8tab.size):((Lib.len8tab[i]'h).toNat:Int)=Lib.bitLen i:=by
  have hs:=Lib.len8tab_size;have:=Lib.len8_of (i:Int) (by omega) (by omega);rw [Int.toNat_natCast] at this;rw [←this,Lib.len8,Int.toNat_natCast,getElem?_pos _ i h];rfl
theorem get8_sh (k x:Nat)(i:Nat)(h:i<Lib.len8tab.size)(hE:i=x/2^k)(hk:k=0∨2^k≤x)(hx:x<2^64):(k:Int)+((Lib.len8tab[i]'h).toNat:Int)=(Lib.bitLen x:Int):=by
  rw [get8,hE];rcases hk with rfl|hk
  · simp
  · rw [Lib.bitLen_shift k x hk hx];omega
theorem wrap64_small (z:Int)(h0:0≤z)(h1:z≤9223372036854775807):wrap64 z=z:=by unfold wrap64;omega
theorem sh_wrap (k x:Nat)(i:Nat)(h:i<Lib.len8tab.size)(hE:i=x/2^k)(hk:k=0∨2^k≤x)(hx:x<2^64)(hk64:k≤64):wrap64 ((k:Int)+wrap64 ((Lib.len8tab[i]'h).toNat:Int))=(Lib.bitLen x:Int):=by
  have e:=get8_sh k x i h hE hk hx;have l:=(Lib.len8tab[i]'h).toNat_lt;generalize (Lib.len8tab[i]'h).toNat=q at*;rw [wrap64_small q (by omega) (by omega),wrap64_small _ (by omega) (by omega)];exact e
theorem sh_wrap0 (x:Nat)(i:Nat)(h:i<Lib.len8tab.size)(hE:i=x)(hx:x<2^64):wrap64 (wrap64 ((Lib.len8tab[i]'h).toNat:Int))=(Lib.bitLen x:Int):=by
  have:=sh_wrap 0 x i h (by rw [hE,Nat.pow_zero,Nat.div_one]) (.inl rfl) hx (by omega);simpa using this
theorem len_int (x:Int)(w:World)(h0:0≤x)(h1:x≤18446744073709551615):
    Calls prog 77 #[int u64 x] w fun e w'=>e= .returned (.int .i64 (Lib.bitLen x.toNat))∧w=w':=by
  go_enter func77,ntmps77;go_wp2
  all_goals first
    |(go_ret;refine⟨ret_i64 ?_,rfl⟩)
    |(exfalso;have hs:=Lib.len8tab_size;omega)
  all_goals have hs:=Lib.len8tab_size
  · exact sh_wrap 56 x.toNat _ _ (by omega) (.inr (by omega)) (by omega) (by omega)
  · exact sh_wrap 48 x.toNat _ _ (by omega) (.inr (by omega)) (by omega) (by omega)
  · exact sh_wrap 40 x.toNat _ _ (by omega) (.inr (by omega)) (by omega) (by omega)
  · exact sh_wrap 32 x.toNat _ _ (by omega) (.inr (by omega)) (by omega) (by omega)
  · exact sh_wrap 24 x.toNat _ _ (by omega) (.inr (by omega)) (by omega) (by omega)
  · exact sh_wrap 16 x.toNat _ _ (by omega) (.inr (by omega)) (by omega) (by omega)
  · exact sh_wrap 8 x.toNat _ _ (by omega) (.inr (by omega)) (by omega) (by omega)
  · exact sh_wrap0 x.toNat _ _ rfl (by omega)
theorem len_nat (x:Nat)(hx:x<18446744073709551616)(w:World):
    Calls prog 77 #[int u64 x] w fun e w'=>e= .returned (.int .i64 (Lib.bitLen x))∧w=w':=by
  have:=len_int (x:Int) w (by omega) (by omega);rwa [Int.toNat_natCast] at this
theorem lead_any (x:Nat)(hx:x<18446744073709551616)(w:World):
    Calls prog 73 #[int u64 x] w fun e w'=>e= .returned (.int .i64 ((64-Lib.bitLen x:Nat):Int))∧w=w':=by
  have L:=len_nat x hx;have hl:=len_le x (by omega);generalize Lib.bitLen x=q at*;clear hx;go_enter func73,ntmps73;go_wp2_with fail;refine(L _).mono ?_;rintro e w' ⟨rfl,rfl⟩;go_wp2;go_ret;exact⟨ret_i64 (by omega),rfl⟩
theorem maskN (a:Nat)(ha:a<18446744073709551616):bits .and .u64 (a:Int) 4294967295=((a%4294967296:Nat):Int):=by
  have h:=bits_and_u64_nat a 4294967295 ha (by omega);rwa [show a&&&4294967295=a%4294967296 from Nat.and_two_pow_sub_one_eq_mod a 32] at h
theorem maskW (z:Int):bits .and .u64 (IntKind.u64.wrap z) 4294967295=IntKind.u64.wrap z%4294967296:=by
  obtain⟨n,hn⟩:∃n:Nat,IntKind.u64.wrap z=n:=⟨(IntKind.u64.wrap z).toNat,by rw [IntKind.wrap_u64];omega⟩;have hl:n<18446744073709551616:=by rw [IntKind.wrap_u64] at hn;omega
  rw [hn,maskN n hl];omega
theorem ret_two {k l:IntKind}{a b c d:Int}(h:a=c)(h2:b=d):Ending.returned (.tuple #[.int k a,.int l b])= .returned (.tuple #[.int k c,.int l d]):=by rw [h,h2]
theorem wrapM (a:Nat):IntKind.u64.wrap (a:Int)=((a%18446744073709551616:Nat):Int):=by rw [IntKind.wrap_u64];omega
theorem mul64_any (x y:Nat)(hx:x<18446744073709551616)(hy:y<18446744073709551616)(w:World):
    Calls prog 62 #[int u64 x,int u64 y] w fun e w'=>e= .returned (.tuple #[int u64 ((x*y/18446744073709551616:Nat):Int),int u64 ((x*y%18446744073709551616:Nat):Int)])∧w=w':=by
  go_enter func62,ntmps62;go_wp2;go_ret2;refine⟨ret_two ?_ ?_,rfl⟩
  · obtain⟨b1,b2,b3,hh⟩:=Lib.mul64_hi x y hx hy;have ba:=Lib.half_mul_le (a:=x/4294967296) (b:=y/4294967296) (by omega) (by omega);have bb:=Lib.half_mul_le (a:=x/4294967296) (b:=y%4294967296) (by omega) (by omega);have bc:=Lib.half_mul_le (a:=x%4294967296) (b:=y/4294967296) (by omega) (by omega);have d0:(x:Int)/4294967296=((x/4294967296:Nat):Int):=by omega
    have d1:(y:Int)/4294967296=((y/4294967296:Nat):Int):=by omega
    rw [maskN x hx,maskN y hy,d0,d1];simp only [maskW,←Int.natCast_mul];simp only [IntKind.wrap_u64];rw [←hh];generalize x/4294967296*(y/4294967296)=p3 at*;generalize x/4294967296*(y%4294967296)=p2 at*;generalize x%4294967296*(y/4294967296)=p1 at*;generalize x%4294967296*(y%4294967296)=p0 at*;clear d0 d1 hh hx hy;omega
  · rw [←Int.natCast_mul,wrapM]
namespace Dv
structure Half (Y a b U d:Nat):Prop where
  y:Y=a*4294967296+b
  b:b<4294967296
  a0:2147483648≤a
  a1:a<4294967296
  u:U<Y
  d:d<4294967296
variable {Y a b U d q r:Nat}
theorem Half.ypos (h:Half Y a b U d):0<Y:=by have:=h.u;omega
theorem Half.small (h:Half Y a b U d):(U*4294967296+d)/Y<4294967296:=by
  rw [Nat.div_lt_iff_lt_mul h.ypos];have:=h.u;have:=h.d;have:(U+1)*4294967296≤Y*4294967296:=Nat.mul_le_mul_right _ (by omega);omega
theorem Half.less (h:Half Y a b U d)(e:q*a+r=U):((U*4294967296+d)/Y<q↔4294967296*r+d<q*b):=by
  rw [Nat.div_lt_iff_lt_mul h.ypos,h.y,Nat.mul_add,←Nat.mul_assoc];generalize q*a=m at*;generalize q*b=n at*;omega
theorem Half.start (h:Half Y a b U d):(U*4294967296+d)/Y≤U/a∧U/a≤4294967297:=by
  have h0:=h.a0;have h1:=h.u;have h2:=h.d;have h3:=h.b;have hy:=h.y;constructor
  · apply Nat.le_of_lt_succ;rw [Nat.div_lt_iff_lt_mul h.ypos,hy];have e:=Nat.lt_mul_div_succ U (show 0<a by omega);have e2:U+1≤(U/a+1)*a:=by rw [Nat.mul_comm];exact e
    have e3:(U+1)*4294967296≤(U/a+1)*a*4294967296:=Nat.mul_le_mul_right _ e2;rw [Nat.mul_add,←Nat.mul_assoc];generalize (U/a).succ*b=z;generalize hz:(U/a+1)*a=t at*;omega
  · apply Nat.le_of_lt_succ;rw [Nat.div_lt_iff_lt_mul (by omega)];omega
theorem Half.over (h:Half Y a b U d)(e:q*a+r=U)(hq:q≤4294967296)(hr:4294967296≤r):q≤(U*4294967296+d)/Y:=by
  rw [Nat.le_div_iff_mul_le h.ypos,h.y,Nat.mul_add,←Nat.mul_assoc];have h1:q*b≤4294967296*r:=Nat.mul_le_mul hq (by have:=h.b;omega);generalize q*a=m at*;generalize q*b=n at*;omega
theorem two (Y U d0 d1:Nat)(hY:0<Y):((U*4294967296+d1)%Y*4294967296+d0)%Y=(U*18446744073709551616+d1*4294967296+d0)%Y:=by
  have e:U*18446744073709551616+d1*4294967296+d0=(U*4294967296+d1)*4294967296+d0:=by omega
  rw [e,Nat.add_mod,Nat.mod_mul_mod,←Nat.add_mod]
theorem left (z Y:Nat)(hY:Y<18446744073709551616)(h0:0<Y):(((z:Int)%18446744073709551616)-(((z/Y)*Y:Nat):Int)%18446744073709551616)%18446744073709551616=((z%Y:Nat):Int):=by
  have e:=Nat.div_add_mod z Y;rw [Nat.mul_comm] at e;have l:=Nat.mod_lt z h0;generalize z/Y*Y=t at*;generalize z%Y=u at*;omega
theorem shifted (x y s:Nat):(x*2^s)%(y*2^s)/2^s=x%y:=by
  rw [Nat.mul_mod_mul_right,Nat.mul_div_cancel _ (Nat.two_pow_pos s)]
theorem words (hi lo y s:Nat)(hs:s≤63)(hlo:lo<18446744073709551616)(hh:hi<y)(hy:y*2^s<18446744073709551616):
    hi*2^s<18446744073709551616∧lo/2^(64-s)<2^s∧hi*2^s+lo/2^(64-s)<y*2^s∧
    (hi*2^s+lo/2^(64-s))*18446744073709551616+lo*2^s%18446744073709551616=(hi*18446744073709551616+lo)*2^s:=by
  have hp:=Nat.two_pow_pos s;have e1:(hi+1)*2^s≤y*2^s:=Nat.mul_le_mul_right _ hh;rw [Nat.add_mul,Nat.one_mul] at e1;have e2:(2:Nat)^(64-s)*2^s=18446744073709551616:=by rw [←Nat.pow_add,show 64-s+s=64 by omega]
  have e3:lo/2^(64-s)<2^s:=by
    rw [Nat.div_lt_iff_lt_mul (Nat.two_pow_pos _),Nat.mul_comm,e2];exact hlo
  have e4:lo*2^s/18446744073709551616=lo/2^(64-s):=by
    rw [←e2,Nat.mul_div_mul_right _ _ hp]
  refine⟨by omega,e3,by omega,?_⟩;rw [←e4,Nat.add_mul,Nat.add_mul,Nat.mul_right_comm hi];have:=Nat.div_add_mod (lo*2^s) 18446744073709551616;generalize hi*2^s=t at*;generalize lo*2^s=u at*;omega
end Dv
theorem div_zero (lo y:Nat)(w:World)(hy:0<y):
    Calls prog 63 #[int u64 0,int u64 lo,int u64 y] w fun e w'=>(∃z:Int,e= .returned (.tuple #[int u64 z,int u64 ((lo%y:Nat):Int)]))∧(w'=w∨w'=w.drew):=by
  have z0:((y:Int)==0)=false:=by simp;omega
  have z1: ¬ ((y:Int)≤0):=by omega
  go_enter func63,ntmps63;go_wp2
  go_region
  go_wp2;go_ret2;exact⟨⟨IntKind.u64.wrap ((lo:Int)/(y:Int)),by simp⟩,.inr rfl⟩
theorem prep (hi lo y s:Nat)(h0:0<hi)(hh:hi<y)(hy:y<18446744073709551616)(hlo:lo<18446744073709551616)(hs:s=64-Lib.bitLen y):
    s ≤63∧∃Y a b H T U X d1 d0:Nat,IntKind.u64.wrap ((y:Int)*2^s)=Y∧(Y:Int)/4294967296=a∧bits .and .u64 (Y:Int) 4294967295=b∧
      IntKind.u64.wrap ((hi:Int)*2^s)=H∧(lo:Int)/2^(64-s)=T∧bits .or .u64 (H:Int) (T:Int)=U∧IntKind.u64.wrap ((lo:Int)*2^s)=X∧
      (X:Int)/4294967296=d1∧bits .and .u64 (X:Int) 4294967295=d0∧Dv.Half Y a b U d1∧Y<18446744073709551616∧d0<4294967296∧
      (U*18446744073709551616+d1*4294967296+d0)%Y/2^s=(hi*18446744073709551616+lo)%y:=by
  obtain⟨b1,b2⟩:=len_lo 64 y (by omega) (by omega);have b3:=len_up 64 y (by omega);have b4:=len_le y (by omega);change 1≤Lib.bitLen y at b1;change 2^(Lib.bitLen y-1)≤y at b2;change y<2^(Lib.bitLen y) at b3;generalize Lib.bitLen y=L at*;have hs63:s≤63:=by omega
  have p1:(2:Nat)^L*2^s=18446744073709551616:=by rw [←Nat.pow_add,show L+s=64 by omega]
  have p2:(2:Nat)^(L-1)*2^s=9223372036854775808:=by rw [←Nat.pow_add,show L-1+s=63 by omega]
  have q1:y*2^s<18446744073709551616:=by rw [←p1];exact Nat.mul_lt_mul_of_pos_right b3 (Nat.two_pow_pos s)
  have q2:9223372036854775808≤y*2^s:=by rw [←p2];exact Nat.mul_le_mul_right _ b2
  obtain⟨w1,w2,w3,w4⟩:=Dv.words hi lo y s hs63 hlo hh q1;have c:∀n:Nat,(n:Int)*2^s=((n*2^s:Nat):Int):=fun n=>by simp
  have c2:(lo:Int)/2^(64-s)=((lo/2^(64-s):Nat):Int):=by simp
  have e6:=orN (hi*2^s) (lo/2^(64-s)) w1 (by omega);rw [Dv.or_add _ _ _ w2] at e6;have e1:IntKind.u64.wrap ((y:Int)*2^s)=((y*2^s:Nat):Int):=by rw [c,wrapM,Nat.mod_eq_of_lt q1]
  have e4:IntKind.u64.wrap ((hi:Int)*2^s)=((hi*2^s:Nat):Int):=by rw [c,wrapM,Nat.mod_eq_of_lt w1]
  have e7:IntKind.u64.wrap ((lo:Int)*2^s)=((lo*2^s%18446744073709551616:Nat):Int):=by rw [c,wrapM]
  have e3:=maskN (y*2^s) q1;have e9:=maskN (lo*2^s%18446744073709551616) (Nat.mod_lt _ (by decide));have sh:=Dv.shifted (hi*18446744073709551616+lo) y s;rw [←w4] at sh;refine⟨hs63,y*2^s,y*2^s/4294967296,y*2^s%4294967296,hi*2^s,lo/2^(64-s),hi*2^s+lo/2^(64-s),lo*2^s%18446744073709551616,lo*2^s%18446744073709551616/4294967296,lo*2^s%18446744073709551616%4294967296,e1,?_,e3,e4,c2,e6,e7,?_,e9,⟨?_,?_,?_,?_,?_,?_⟩,q1,?_,?_⟩
  · generalize y*2^s=Y at*;omega
  · generalize lo*2^s%18446744073709551616=Y at*;omega
  · generalize y*2^s=Y at*;omega
  · generalize y*2^s=Y at*;omega
  · generalize y*2^s=Y at*;omega
  · generalize y*2^s=Y at*;omega
  · exact w3
  · have:=Nat.mod_lt (lo*2^s) (show 0<18446744073709551616 by decide);clear e1 e3 e4 e6 e7 e9 c c2 sh w4;generalize lo*2^s%18446744073709551616=Y at*;omega
  · generalize lo*2^s%18446744073709551616=Y at*;omega
  · rw [←sh];clear e1 e3 e4 e6 e7 e9 c c2 sh w4;generalize hi*2^s+lo/2^(64-s)=U;generalize lo*2^s%18446744073709551616=X;have:U*18446744073709551616+X/4294967296*4294967296+X%4294967296=U*18446744073709551616+X:=by omega
    rw [this]
theorem turn {Y a b U d q r:Nat}(h:Dv.Half Y a b U d)(i1:q*a+r=U)(i2:(U*4294967296+d)/Y≤q)(i3:q≤4294967297)(i4:r<4294967296):
    (∃n z v:Nat,¬ ((4294967296:Int)≤q)∧IntKind.u64.wrap ((q:Int)*(b:Int))=n∧IntKind.u64.wrap (4294967296*(r:Int))=z∧IntKind.u64.wrap ((z:Int)+(d:Int))=v∧
      (¬ ((v:Int)<(n:Int))∧q=(U*4294967296+d)/Y∨(v:Int)<(n:Int)∧(U*4294967296+d)/Y<q))∨((4294967296:Int)≤q∧(U*4294967296+d)/Y<q):=by
  have hb:=h.b;have hd:=h.d;by_cases k1:4294967296≤q
  · exact .inr ⟨by omega,by have:=h.small;omega⟩
  · refine .inl ⟨q*b,4294967296*r,4294967296*r+d,by omega,?_,?_,?_,?_⟩
    · rw [←Int.natCast_mul,wrapM,Nat.mod_eq_of_lt];have:q*b≤4294967295*4294967295:=Nat.mul_le_mul (by omega) (by omega);omega
    · rw [IntKind.wrap_u64];omega
    · rw [IntKind.wrap_u64];omega
    · have e:=h.less (q:=q) (r:=r) i1;by_cases k2:4294967296*r+d<q*b
      · exact .inr ⟨by omega,e.2 k2⟩
      · refine .inl ⟨by omega,?_⟩;have: ¬ (U*4294967296+d)/Y<q:=fun h=>k2 (e.1 h)
        omega
theorem turned {Y a b U d q r:Nat}(h:Dv.Half Y a b U d)(i1:q*a+r=U)(i3:q≤4294967297)(i4:r<4294967296)(k:(U*4294967296+d)/Y<q):
    ∃ p t:Nat,IntKind.u64.wrap ((q:Int)-1)=p∧IntKind.u64.wrap ((r:Int)+(a:Int))=t∧p<q∧
      ((4294967296:Int)≤t∧p=(U*4294967296+d)/Y∨ ¬ ((4294967296:Int)≤t)∧(p*a+t=U∧(U*4294967296+d)/Y≤p∧p≤4294967297∧t<4294967296)):=by
  have ha:=h.a1;have ho:∀p t,p*a+t=U→p≤4294967296→4294967296≤t→p≤(U*4294967296+d)/Y:=fun p t=>h.over
  generalize (U*4294967296+d)/Y=Q at*;obtain⟨p,rfl⟩:∃p,q=p+1:=⟨q-1,by omega⟩;have e:p*a+(r+a)=U:=by rw [←i1,Nat.add_mul,Nat.one_mul];omega
  refine⟨p,r+a,by rw [IntKind.wrap_u64];omega,by rw [IntKind.wrap_u64];omega,by omega,?_⟩;by_cases k3:4294967296≤r+a
  · refine .inl ⟨by omega,?_⟩;have:=ho _ _ e (by omega) k3;omega
  · exact .inr ⟨by omega,e,by omega,by omega,by omega⟩
theorem rest {Y a b U d k:Nat}(h:Dv.Half Y a b U d)(hY:Y<18446744073709551616)(hk:k=(U*4294967296+d)/Y):
    ∃A1 A2 A3 V:Nat,IntKind.u64.wrap ((U:Int)*4294967296)=A1∧IntKind.u64.wrap ((A1:Int)+(d:Int))=A2∧IntKind.u64.wrap ((k:Int)*(Y:Int))=A3∧IntKind.u64.wrap ((A2:Int)-(A3:Int))=V∧V=(U*4294967296+d)%Y:=by
  have e:=Dv.left (U*4294967296+d) Y hY h.ypos;rw [←hk] at e;refine⟨U*4294967296%18446744073709551616,(U*4294967296+d)%18446744073709551616,k*Y%18446744073709551616,(U*4294967296+d)%Y,?_,?_,?_,?_,rfl⟩
  · rw [IntKind.wrap_u64];omega
  · rw [IntKind.wrap_u64];omega
  · rw [←Int.natCast_mul,wrapM]
  · rw [IntKind.wrap_u64,←e];generalize k*Y=z;omega
theorem guess {Y a b U d:Nat}(hf:Dv.Half Y a b U d)(hY:Y<18446744073709551616):
    ∃ q r m:Nat,(U:Int)/(a:Int)=q∧IntKind.u64.wrap (q:Int)=q∧IntKind.u64.wrap ((q:Int)*(a:Int))=m∧IntKind.u64.wrap ((U:Int)-(m:Int))=r∧
      (q*a+r=U∧(U*4294967296+d)/Y≤q∧q≤4294967297∧r<4294967296):=by
  have ha0:=hf.a0;have ha1:=hf.a1;have hu:=hf.u;have hst:=hf.start;have hd:=Nat.div_add_mod U a;have hl:=Nat.mod_lt U (show 0<a by omega);have hql:U/a≤U:=Nat.div_le_self _ _;refine⟨U/a,U%a,U/a*a,by simp,?_,?_,?_,?_,hst.1,hst.2,by omega⟩
  · rw [wrapM,Nat.mod_eq_of_lt (by omega)]
  · rw [←Int.natCast_mul,wrapM,Nat.mod_eq_of_lt];rw [Nat.mul_comm];generalize a*(U/a)=z at*;omega
  · rw [Nat.mul_comm a] at hd;generalize U/a*a=z at*;rw [IntKind.wrap_u64];omega
  · rw [Nat.mul_comm a] at hd;exact hd
theorem div_more (hi lo y:Nat)(w:World)(h0:0<hi)(hh:hi<y)(hy:y<18446744073709551616)(hlo:lo<18446744073709551616):
    Calls prog 63 #[int u64 hi,int u64 lo,int u64 y] w fun e w'=>(∃z:Int,e= .returned (.tuple #[int u64 z,int u64 (((hi*18446744073709551616+lo)%y:Nat):Int)]))∧(w'=w∨w'=w.drew):=by
  have z0:((y:Int)==0)=false:=by simp;omega
  have z1: ¬ ((y:Int)≤(hi:Int)):=by omega
  have z2:((hi:Int)==0)=false:=by simp;omega
  have L:=lead_any y hy;obtain⟨s,hs⟩:∃s,s=64-Lib.bitLen y:=⟨_,rfl⟩;obtain⟨hs63,Y,a,b,H,T,U,X,d1,d0,e1,e2,e3,e4,e5,e6,e7,e8,e9,hf,hY,hd0,hres⟩:=prep hi lo y s h0 hh hy hlo hs;rw [←hs] at L;obtain⟨res,hr'⟩:∃res,res=(hi*18446744073709551616+lo)%y:=⟨_,rfl⟩;rw [←hr'] at hres⊢;clear hr';have hres:Hid ((U*18446744073709551616+d1*4294967296+d0)%Y/2^s=res):=hres;have z4: ¬ (a=0):=by have:=hf.a0;omega
  obtain⟨q,r,m,f1,f2,f3,f4,f5⟩:=guess hf hY;have hF:Hid (q*a+r=U∧(U*4294967296+d1)/Y≤q∧q≤4294967297∧r<4294967296):=f5;have hHf:Hid (Dv.Half Y a b U d1∧Y<18446744073709551616∧d0<4294967296):=⟨hf,hY,hd0⟩;clear hs hh h0 hlo hy hY hd0 hf f5;go_enter func63,ntmps63;go_wp2_with fail;refine(L _).mono ?_;rintro e w' ⟨rfl,rfl⟩;clear L;go_wp2
  go_loop [15,16] (fun qv rv=>∃q r:Nat,qv=int u64 (q:Int)∧rv=int u64 (r:Int)∧Hid (q*a+r=U∧(U*4294967296+d1)/Y≤q∧q≤4294967297∧r<4294967296)) (fun qv _=>(intOf qv).toNat)
  case atStart=>exact ⟨q,r,rfl,rfl,hF⟩
  case round=>
    clear f1 f2 f3 f4 hF;obtain⟨g,x,rfl,rfl,hI⟩:=hrel;obtain⟨i1,i2,i3,i4⟩:=hI.out;rcases turn hHf.out.1 i1 i2 i3 i4 with ⟨n,z,v,j1,j2,j3,j4,⟨j5,j6⟩|⟨j5,j6⟩⟩|⟨j1,j6⟩
    case inl.inl=>
      have hx:Hid (g=(U*4294967296+d1)/Y):=j6;clear hI i1 i2 i3 i4 j6;obtain⟨A1,A2,A3,V,n1,n2,n3,n4,n5⟩:=rest hHf.out.1 hHf.out.2.1 hx.out;have hg:Hid (Dv.Half Y a b V d0∧Y<18446744073709551616∧V=(U*4294967296+d1)%Y):=⟨⟨hHf.out.1.y,hHf.out.1.b,hHf.out.1.a0,hHf.out.1.a1,by rw [n5];exact Nat.mod_lt _ hHf.out.1.ypos,hHf.out.2.2⟩,hHf.out.2.1,n5⟩;obtain⟨q2,r2,m2,g1,g2,g3,g4,g5⟩:=guess hg.out.1 hg.out.2.1;have hG:Hid (q2*a+r2=V∧(V*4294967296+d0)/Y≤q2∧q2≤4294967297∧r2<4294967296):=g5;clear hx n5 hHf g5;go_wp2
      go_loop [18,16] (fun qv rv=>∃q r:Nat,qv=int u64 (q:Int)∧rv=int u64 (r:Int)∧Hid (q*a+r=V∧(V*4294967296+d0)/Y≤q∧q≤4294967297∧r<4294967296)) (fun qv _=>(intOf qv).toNat)
      case atStart=>exact ⟨q2,r2,rfl,rfl,hG⟩
      case round=>
        clear g1 g2 g3 g4 hG n1 n2 n3 n4;obtain⟨g',x',rfl,rfl,hI⟩:=hrel;obtain⟨i1,i2,i3,i4⟩:=hI.out;rcases turn hg.out.1 i1 i2 i3 i4 with ⟨n',z',v',j1,j2,j3,j4,⟨j5,j6⟩|⟨j5,j6⟩⟩|⟨j1,j6⟩
        case inl.inl=>
          have hx:Hid (g'=(V*4294967296+d0)/Y):=j6;clear hI i1 i2 i3 i4 j6;obtain⟨C1,C2,C3,R,s1,s2,s3,s4,s5⟩:=rest hg.out.1 hg.out.2.1 hx.out;have s6:(R:Int)/2^s=((R/2^s:Nat):Int):=by simp
          have s7:R/2^s=res:=by rw [s5,hg.out.2.2,Dv.two _ _ _ _ hg.out.1.ypos];exact hres.out
          rw [s7] at s6;clear s5 hx s7;go_wp2;go_ret2;exact⟨⟨_,ret_two rfl rfl⟩,.inl rfl⟩
        case inl.inr=>
          obtain⟨p',t',j7,j8,j9,⟨j10,j11⟩|⟨j10,j11⟩⟩:=turned hg.out.1 i1 i3 i4 j6
          · have hx:Hid (p'=(V*4294967296+d0)/Y):=j11;clear hI i1 i2 i3 i4 j11 j9 j6;obtain⟨C1,C2,C3,R,s1,s2,s3,s4,s5⟩:=rest hg.out.1 hg.out.2.1 hx.out;have s6:(R:Int)/2^s=((R/2^s:Nat):Int):=by simp
            have s7:R/2^s=res:=by rw [s5,hg.out.2.2,Dv.two _ _ _ _ hg.out.1.ypos];exact hres.out
            rw [s7] at s6;clear s5 hx s7;go_wp2;go_ret2;exact⟨⟨_,ret_two rfl rfl⟩,.inl rfl⟩
          · have hx:Hid (p'*a+t'=V∧(V*4294967296+d0)/Y≤p'∧p'≤4294967297∧t'<4294967296):=j11;clear hI i1 i2 i3 i4 j11 j6;go_wp2;go_round
            case rel=>exact ⟨p',t',rfl,rfl,hx⟩
            case measure=>simp [intOf];omega
        case inr=>
          obtain⟨p',t',j7,j8,j9,⟨j10,j11⟩|⟨j10,j11⟩⟩:=turned hg.out.1 i1 i3 i4 j6
          · have hx:Hid (p'=(V*4294967296+d0)/Y):=j11;clear hI i1 i2 i3 i4 j11 j9 j6;obtain⟨C1,C2,C3,R,s1,s2,s3,s4,s5⟩:=rest hg.out.1 hg.out.2.1 hx.out;have s6:(R:Int)/2^s=((R/2^s:Nat):Int):=by simp
            have s7:R/2^s=res:=by rw [s5,hg.out.2.2,Dv.two _ _ _ _ hg.out.1.ypos];exact hres.out
            rw [s7] at s6;clear s5 hx s7;go_wp2;go_ret2;exact⟨⟨_,ret_two rfl rfl⟩,.inl rfl⟩
          · have hx:Hid (p'*a+t'=V∧(V*4294967296+d0)/Y≤p'∧p'≤4294967297∧t'<4294967296):=j11;clear hI i1 i2 i3 i4 j11 j6;go_wp2;go_round
            case rel=>exact ⟨p',t',rfl,rfl,hx⟩
            case measure=>simp [intOf];omega
    case inl.inr=>
      obtain⟨p,t,j7,j8,j9,⟨j10,j11⟩|⟨j10,j11⟩⟩:=turned hHf.out.1 i1 i3 i4 j6
      · have hx:Hid (p=(U*4294967296+d1)/Y):=j11;clear hI i1 i2 i3 i4 j11 j9 j6;obtain⟨A1,A2,A3,V,n1,n2,n3,n4,n5⟩:=rest hHf.out.1 hHf.out.2.1 hx.out;have hg:Hid (Dv.Half Y a b V d0∧Y<18446744073709551616∧V=(U*4294967296+d1)%Y):=⟨⟨hHf.out.1.y,hHf.out.1.b,hHf.out.1.a0,hHf.out.1.a1,by rw [n5];exact Nat.mod_lt _ hHf.out.1.ypos,hHf.out.2.2⟩,hHf.out.2.1,n5⟩;obtain⟨q2,r2,m2,g1,g2,g3,g4,g5⟩:=guess hg.out.1 hg.out.2.1;have hG:Hid (q2*a+r2=V∧(V*4294967296+d0)/Y≤q2∧q2≤4294967297∧r2<4294967296):=g5;clear hx n5 hHf g5;go_wp2
        go_loop [18,16] (fun qv rv=>∃q r:Nat,qv=int u64 (q:Int)∧rv=int u64 (r:Int)∧Hid (q*a+r=V∧(V*4294967296+d0)/Y≤q∧q≤4294967297∧r<4294967296)) (fun qv _=>(intOf qv).toNat)
        case atStart=>exact ⟨q2,r2,rfl,rfl,hG⟩
        case round=>
          clear g1 g2 g3 g4 hG n1 n2 n3 n4;obtain⟨g',x',rfl,rfl,hI⟩:=hrel;obtain⟨i1,i2,i3,i4⟩:=hI.out;rcases turn hg.out.1 i1 i2 i3 i4 with ⟨n',z',v',j1,j2,j3,j4,⟨j5,j6⟩|⟨j5,j6⟩⟩|⟨j1,j6⟩
          case inl.inl=>
            have hx:Hid (g'=(V*4294967296+d0)/Y):=j6;clear hI i1 i2 i3 i4 j6;obtain⟨C1,C2,C3,R,s1,s2,s3,s4,s5⟩:=rest hg.out.1 hg.out.2.1 hx.out;have s6:(R:Int)/2^s=((R/2^s:Nat):Int):=by simp
            have s7:R/2^s=res:=by rw [s5,hg.out.2.2,Dv.two _ _ _ _ hg.out.1.ypos];exact hres.out
            rw [s7] at s6;clear s5 hx s7;go_wp2;go_ret2;exact⟨⟨_,ret_two rfl rfl⟩,.inl rfl⟩
          case inl.inr=>
            obtain⟨p',t',j7,j8,j9,⟨j10,j11⟩|⟨j10,j11⟩⟩:=turned hg.out.1 i1 i3 i4 j6
            · have hx:Hid (p'=(V*4294967296+d0)/Y):=j11;clear hI i1 i2 i3 i4 j11 j9 j6;obtain⟨C1,C2,C3,R,s1,s2,s3,s4,s5⟩:=rest hg.out.1 hg.out.2.1 hx.out;have s6:(R:Int)/2^s=((R/2^s:Nat):Int):=by simp
              have s7:R/2^s=res:=by rw [s5,hg.out.2.2,Dv.two _ _ _ _ hg.out.1.ypos];exact hres.out
              rw [s7] at s6;clear s5 hx s7;go_wp2;go_ret2;exact⟨⟨_,ret_two rfl rfl⟩,.inl rfl⟩
            · have hx:Hid (p'*a+t'=V∧(V*4294967296+d0)/Y≤p'∧p'≤4294967297∧t'<4294967296):=j11;clear hI i1 i2 i3 i4 j11 j6;go_wp2;go_round
              case rel=>exact ⟨p',t',rfl,rfl,hx⟩
              case measure=>simp [intOf];omega
          case inr=>
            obtain⟨p',t',j7,j8,j9,⟨j10,j11⟩|⟨j10,j11⟩⟩:=turned hg.out.1 i1 i3 i4 j6
            · have hx:Hid (p'=(V*4294967296+d0)/Y):=j11;clear hI i1 i2 i3 i4 j11 j9 j6;obtain⟨C1,C2,C3,R,s1,s2,s3,s4,s5⟩:=rest hg.out.1 hg.out.2.1 hx.out;have s6:(R:Int)/2^s=((R/2^s:Nat):Int):=by simp
              have s7:R/2^s=res:=by rw [s5,hg.out.2.2,Dv.two _ _ _ _ hg.out.1.ypos];exact hres.out
              rw [s7] at s6;clear s5 hx s7;go_wp2;go_ret2;exact⟨⟨_,ret_two rfl rfl⟩,.inl rfl⟩
            · have hx:Hid (p'*a+t'=V∧(V*4294967296+d0)/Y≤p'∧p'≤4294967297∧t'<4294967296):=j11;clear hI i1 i2 i3 i4 j11 j6;go_wp2;go_round
              case rel=>exact ⟨p',t',rfl,rfl,hx⟩
              case measure=>simp [intOf];omega
      · have hx:Hid (p*a+t=U∧(U*4294967296+d1)/Y≤p∧p≤4294967297∧t<4294967296):=j11;clear hI i1 i2 i3 i4 j11 j6;go_wp2;go_round
        case rel=>exact ⟨p,t,rfl,rfl,hx⟩
        case measure=>simp [intOf];omega
    case inr=>
      obtain⟨p,t,j7,j8,j9,⟨j10,j11⟩|⟨j10,j11⟩⟩:=turned hHf.out.1 i1 i3 i4 j6
      · have hx:Hid (p=(U*4294967296+d1)/Y):=j11;clear hI i1 i2 i3 i4 j11 j9 j6;obtain⟨A1,A2,A3,V,n1,n2,n3,n4,n5⟩:=rest hHf.out.1 hHf.out.2.1 hx.out;have hg:Hid (Dv.Half Y a b V d0∧Y<18446744073709551616∧V=(U*4294967296+d1)%Y):=⟨⟨hHf.out.1.y,hHf.out.1.b,hHf.out.1.a0,hHf.out.1.a1,by rw [n5];exact Nat.mod_lt _ hHf.out.1.ypos,hHf.out.2.2⟩,hHf.out.2.1,n5⟩;obtain⟨q2,r2,m2,g1,g2,g3,g4,g5⟩:=guess hg.out.1 hg.out.2.1;have hG:Hid (q2*a+r2=V∧(V*4294967296+d0)/Y≤q2∧q2≤4294967297∧r2<4294967296):=g5;clear hx n5 hHf g5;go_wp2
        go_loop [18,16] (fun qv rv=>∃q r:Nat,qv=int u64 (q:Int)∧rv=int u64 (r:Int)∧Hid (q*a+r=V∧(V*4294967296+d0)/Y≤q∧q≤4294967297∧r<4294967296)) (fun qv _=>(intOf qv).toNat)
        case atStart=>exact ⟨q2,r2,rfl,rfl,hG⟩
        case round=>
          clear g1 g2 g3 g4 hG n1 n2 n3 n4;obtain⟨g',x',rfl,rfl,hI⟩:=hrel;obtain⟨i1,i2,i3,i4⟩:=hI.out;rcases turn hg.out.1 i1 i2 i3 i4 with ⟨n',z',v',j1,j2,j3,j4,⟨j5,j6⟩|⟨j5,j6⟩⟩|⟨j1,j6⟩
          case inl.inl=>
            have hx:Hid (g'=(V*4294967296+d0)/Y):=j6;clear hI i1 i2 i3 i4 j6;obtain⟨C1,C2,C3,R,s1,s2,s3,s4,s5⟩:=rest hg.out.1 hg.out.2.1 hx.out;have s6:(R:Int)/2^s=((R/2^s:Nat):Int):=by simp
            have s7:R/2^s=res:=by rw [s5,hg.out.2.2,Dv.two _ _ _ _ hg.out.1.ypos];exact hres.out
            rw [s7] at s6;clear s5 hx s7;go_wp2;go_ret2;exact⟨⟨_,ret_two rfl rfl⟩,.inl rfl⟩
          case inl.inr=>
            obtain⟨p',t',j7,j8,j9,⟨j10,j11⟩|⟨j10,j11⟩⟩:=turned hg.out.1 i1 i3 i4 j6
            · have hx:Hid (p'=(V*4294967296+d0)/Y):=j11;clear hI i1 i2 i3 i4 j11 j9 j6;obtain⟨C1,C2,C3,R,s1,s2,s3,s4,s5⟩:=rest hg.out.1 hg.out.2.1 hx.out;have s6:(R:Int)/2^s=((R/2^s:Nat):Int):=by simp
              have s7:R/2^s=res:=by rw [s5,hg.out.2.2,Dv.two _ _ _ _ hg.out.1.ypos];exact hres.out
              rw [s7] at s6;clear s5 hx s7;go_wp2;go_ret2;exact⟨⟨_,ret_two rfl rfl⟩,.inl rfl⟩
            · have hx:Hid (p'*a+t'=V∧(V*4294967296+d0)/Y≤p'∧p'≤4294967297∧t'<4294967296):=j11;clear hI i1 i2 i3 i4 j11 j6;go_wp2;go_round
              case rel=>exact ⟨p',t',rfl,rfl,hx⟩
              case measure=>simp [intOf];omega
          case inr=>
            obtain⟨p',t',j7,j8,j9,⟨j10,j11⟩|⟨j10,j11⟩⟩:=turned hg.out.1 i1 i3 i4 j6
            · have hx:Hid (p'=(V*4294967296+d0)/Y):=j11;clear hI i1 i2 i3 i4 j11 j9 j6;obtain⟨C1,C2,C3,R,s1,s2,s3,s4,s5⟩:=rest hg.out.1 hg.out.2.1 hx.out;have s6:(R:Int)/2^s=((R/2^s:Nat):Int):=by simp
              have s7:R/2^s=res:=by rw [s5,hg.out.2.2,Dv.two _ _ _ _ hg.out.1.ypos];exact hres.out
              rw [s7] at s6;clear s5 hx s7;go_wp2;go_ret2;exact⟨⟨_,ret_two rfl rfl⟩,.inl rfl⟩
            · have hx:Hid (p'*a+t'=V∧(V*4294967296+d0)/Y≤p'∧p'≤4294967297∧t'<4294967296):=j11;clear hI i1 i2 i3 i4 j11 j6;go_wp2;go_round
              case rel=>exact ⟨p',t',rfl,rfl,hx⟩
              case measure=>simp [intOf];omega
      · have hx:Hid (p*a+t=U∧(U*4294967296+d1)/Y≤p∧p≤4294967297∧t<4294967296):=j11;clear hI i1 i2 i3 i4 j11 j6;go_wp2;go_round
        case rel=>exact ⟨p,t,rfl,rfl,hx⟩
        case measure=>simp [intOf];omega
theorem div_any (hi lo y:Nat)(w:World)(hh:hi<y)(hy:y<18446744073709551616)(hlo:lo<18446744073709551616):
    Calls prog 63 #[int u64 hi,int u64 lo,int u64 y] w fun e w'=>(∃z:Int,e= .returned (.tuple #[int u64 z,int u64 (((hi*18446744073709551616+lo)%y:Nat):Int)]))∧(w'=w∨w'=w.drew):=by
  by_cases h0:hi=0
  · subst h0;rw [Nat.zero_mul,Nat.zero_add];exact div_zero lo y w hh
  · exact div_more hi lo y w (by omega) hh hy hlo
section
open Go.Shelf
attribute [local go_sem] Oper.semAt_some
def bitsF (e L:Nat):Nat→List Bool
  |0=> []
  |j+1=>bitsF e L j++ [decide (e/2^(L-(j+1))%2=1)]
theorem bitsF_length (e L:Nat):∀j,(bitsF e L j).length=j
  |0=>rfl
  |j+1=>by simp [bitsF,bitsF_length e L j]
theorem and1 (z:Nat)(h:z<18446744073709551616):bits .and .u64 (z:Int) 1=((z%2:Nat):Int):=by
  have:=bits_and_u64_nat z 1 h (by decide);rwa [show z&&&1=z%2 from Nat.and_two_pow_sub_one_eq_mod z 1] at this
theorem bit_eq (e i:Nat)(he:e<18446744073709551616):(bits .and .u64 ((e:Int)/2^i) 1==1)=decide (e/2^i%2=1):=by
  have e1:(e:Int)/2^i=((e/2^i:Nat):Int):=by simp
  rw [e1,and1 _ (Nat.lt_of_le_of_lt (Nat.div_le_self _ _) he)];generalize e/2^i%2=z;by_cases h:z=1
  · subst h;rfl
  · simp [h];omega
theorem bit_stops (n:Nat)(hn:1≤n)(e Be:Nat)(he:e<18446744073709551616)(w:World)(hc:w.cell? ⟨Be,0,none⟩=some (int u64 e))(hB:Be<w.heap.size):
    SeqStopsK Fence.wide n prog 76 #[.pointer (some ⟨Be,0,none⟩)] (fun b:Bool=>#[.bool b]) (fun W W'=>W.cell? ⟨Be,0,none⟩=some (int u64 e)→W'.cell? ⟨Be,0,none⟩=some (int u64 e))
      (fun xs=>xs=bitsF e (Lib.bitLen e) (Lib.bitLen e)) (fun _=>True) 64 w:=fun l J Jx W hW _ _ hY h0=>by
  have hcW:W.cell? ⟨Be,0,none⟩=some (int u64 e):=(hW.cell (p:=⟨Be,0,none⟩) hB).trans hc;have hL:=len_nat e he;have hl:=len_le e (by omega);have hbe:=bit_eq e;generalize Lib.bitLen e=L at*;refine callsIn_of_wp func76 rfl trivial ?_ rfl;simp only [ntmps76,List.size_toArray,List.length_cons,List.length_nil,Nat.reduceAdd,Nat.reduceSub,Array.replicate_succ,Array.replicate_zero,List.push_toArray,List.append_toArray,List.nil_append,List.cons_append]
  gi_wp2_with (refine⟨trivial,?_⟩;gi_at_call 77;refine(callsIn_wide.2 (hL _)).mono ?_;rintro e w' ⟨rfl,rfl⟩)
  clear hL
  gi_loopw [3] (fun i wr=>∃(k:Nat) (x:Int),x=(k:Int)-1∧k≤L∧i= .int .i64 x∧wr.cell? ⟨Be,0,none⟩=some (int u64 e)∧J (bitsF e L (L-k)) wr) (fun i _=>(intOf i+1).toNat)
  case atStart=>exact ⟨L,(L:Int)-1,rfl,Nat.le_refl _,rfl,hcW,by rw [Nat.sub_self];exact h0⟩
  case round=>
    obtain⟨k,x,hx,hk,rfl,hcr,hJ⟩:=hrel;rcases k with _|j
    · have hneg: ¬ ((0:Int)≤x):=by omega
      clear hx
      gi_wp2
      go_end0
      exact⟨⟨_,rfl⟩,.inl hJ⟩
    · obtain rfl:x=(j:Int):=by omega
      clear hx;have hbj:=hbe j he
      have hst:bitsF e L (L-j)=bitsF e L (L-(j+1))++ [decide (e/2^j%2=1)]:=by
        have e1:L-j=L-(j+1)+1:=by omega
        rw [e1,bitsF,show L-(L-(j+1)+1)=j by omega]
      generalize decide (e/2^j%2=1)=bb at*;obtain⟨fn,tmps,assign,body,hy,hR⟩:=hY _ bb wr hJ (by rw [bitsF_length];omega);rw [←hst] at hR;clear hY hbe hst
      gi_wp2
      refine hR.mono ?_;rintro e' W3 (⟨rfl,hJ3,hk3⟩|⟨rfl,hJx3⟩)
      · have hc3:=hk3 hcr
        gi_wp2
        go_roundw
        case rel=>exact ⟨j,(j:Int)-1,rfl,by omega,rfl,hc3,hJ3⟩
        case measure=>simp [intOf]
      · gi_wp2
        refine bodyPost_ret (results_none rfl _ _ _) rfl ?_;exact⟨⟨_,rfl⟩,.inr ⟨_,trivial,hJx3⟩⟩
theorem bits_of (e:Nat)(w:World):
    Calls prog 69 #[int u64 e] w fun r w'=>r= .returned (.func (.func 76) #[] #[.pointer (some ⟨w.heap.size,0,none⟩)])∧w'=w.alloc (.cells #[int u64 e] 22):=by
  go_enter func69,ntmps69;go_wp2;go_ret;exact⟨rfl,rfl⟩
end
section
open Go.Shelf
attribute [local go_sem] Oper.semAt_some
def valB (l:List Bool):Nat:=l.foldl (fun v b=>2*v+b.toNat) 0
theorem valB_snoc (l:List Bool)(b:Bool):valB (l++ [b])=2*valB l+b.toNat:=by simp [valB]
theorem valB_bits (e L:Nat):∀j,j≤L→e/2^L=0→valB (bitsF e L j)=e/2^(L-j)
  |0,_,h=>by simp [bitsF,valB,h]
  | j+1,hj,h=>by
    rw [bitsF,valB_snoc,valB_bits e L j (by omega) h];have e1:L-j=L-(j+1)+1:=by omega
    rw [e1];generalize L-(j+1)=i;have:e/2^(i+1)=e/2^i/2:=by rw [Nat.pow_succ,Nat.div_div_eq_div_mul]
    rw [this];generalize e/2^i=z;by_cases hz:z%2=1
    · simp [hz];omega
    · simp [hz];omega
theorem valB_all (e:Nat)(he:e<2^64):valB (bitsF e (Lib.bitLen e) (Lib.bitLen e))=e:=by
  have h:e<2^Lib.bitLen e:=len_up 64 e he;rw [valB_bits e _ _ (Nat.le_refl _) (Nat.div_eq_of_lt h),Nat.sub_self,Nat.pow_zero,Nat.div_one]
theorem cell_new1 (w:World)(v:Value)(t:TypeId){b:Nat}(e:w.heap.size=b):(w.alloc (.cells #[v] t)).cell? ⟨b,0,none⟩=some v:=by subst e;rw [World.cell?,World.alloc_heap_new w _];rfl
theorem setCell_heap (W:World)(b i:Nat)(v:Value)(k:Nat)(h:k≠b):(W.setCell ⟨b,i,none⟩ v).heap[k]? =W.heap[k]? :=by
  simp [World.setCell,Array.getElem?_modify,Ne.symm h]
theorem keeps_below {W W':World}(h:Bl W W'):KeepsOthers W W':=⟨h.size,fun k o hk _=>(h.block k (Array.getElem?_eq_some_iff.1 hk).1).trans hk⟩
theorem pow_step0 (a m c d v:Nat)(hc:c=a^v%m)(hd:d=c*c%m):d=a^(2*v)%m:=by
  rw [hd,hc,Nat.two_mul,Nat.pow_add,←Nat.mul_mod]
theorem pow_step1 (a m c d d2 v:Nat)(hc:c=a^v%m)(hd:d=c*c%m)(hd2:d2=d*a%m):d2=a^(2*v+1)%m:=by
  rw [hd2,pow_step0 a m c d v hc hd,Nat.mod_mul_mod,Nat.pow_succ]
end
end Go.Proofs.Ytnfbfpegagcanaa
