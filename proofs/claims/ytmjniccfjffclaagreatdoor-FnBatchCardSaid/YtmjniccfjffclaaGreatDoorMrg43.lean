import Derived.Test.YtmjniccfjffclaaGreatDoorMrg42
set_option linter.unusedVariables false
set_option maxRecDepth 100000
set_option maxHeartbeats 16000000
namespace Go.Proofs.YtmjniccfjffclaaGreatDoor
open Go.Proofs.Tryz Go.RowKit
open Go.Value (int)
open Go.IntKind (u64)
section
open M
theorem siz_uni (s:ByteArray)(h:s.size≤65537):∃t:ByteArray,t.size=s.size+2∧∀w,Cr 62 #[.string s] w (.string t):=by
  by_cases hz:s.size≤65535
  · exact⟨sizB s,by rw [sizB_size],fun w=>sizS_any s w hz⟩
  · obtain⟨x,hx,hsz⟩:∃x:Int,(x=0∨x=1)∧(s.size:Int)=65536+x:=⟨(s.size:Int)-65536,by omega,by omega⟩;have hcv:=fun w=>conv2 w 0 x
    obtain⟨T,hT⟩:∃T,Hid (T=strOfNums [0,x]):=⟨_,rfl⟩;have hTs:T.size=2:=by rw [hT.out,strOfNums_size];rfl
    rw [←hT.out] at hcv;have hq: ¬ (9223372036854775807<T.size+s.size):=by omega
    have hsum:(T++s).size=s.size+2:=by rw [ByteArray.size_append,hTs];omega
    refine⟨T++s,hsum,fun w=> ?_⟩;replace hcv:=hcv w;rcases hx with rfl|rfl
    · have hsz':(s.size:Int)=65536:=by omega
      clear hsz hz h hT;go_enter func62,ntmps62;go_wp2;go_ret;exact⟨rfl,(Below.refl _ w).alloc (Nat.le_refl _) _⟩
    · have hsz':(s.size:Int)=65537:=by omega
      clear hsz hz h hT;go_enter func62,ntmps62;go_wp2;go_ret;exact⟨rfl,(Below.refl _ w).alloc (Nat.le_refl _) _⟩
theorem sca_uni (s:ByteArray)(k:Nat)(hk:k<3):∃x:Nat,x<2305843010818082053∧∀w,Cr 61 #[.string s,.int .i64 k] w (int u64 x):=by
  by_cases hs:s.size≤65535
  · exact⟨scaN s k,scaN_lt s k,fun w=>scaS_any s k w hk hs⟩
  · refine⟨0,by decide,fun w=> ?_⟩;have T:=tagS_any ⟨#[72,97,115,104,84,111,83,99,97,108,97,114,45]⟩ k w hk (by decide);have H:=fun w'=>h2sS_no s (scaT k) w' (fun h=>hs h.2.2)
    change Calls _ _ _ _ (fun e w'=>e= .returned (.string (scaT k))∧_) at T;generalize scaT k=t at*;go_enter func61,ntmps61;go_wp2_with fail;refine T.mono ?_;rintro e w1 ⟨rfl,b1⟩;go_wp2_with fail;refine(H w1).mono ?_;rintro e w2 ⟨rfl,b2⟩;go_wp2;go_ret;exact⟨rfl,b1.tr b2⟩
theorem twk_uni (info:ByteArray)(h:info.size≤65537):∃x:Nat,x<2305843010818082053∧∀w,Cr 29 #[.string info] w (int u64 x):=by
  obtain⟨t,ht,S⟩:=siz_uni info h;obtain⟨x,hx,C⟩:=sca_uni (⟨#[73,110,102,111]⟩++t) 2 (by omega);refine⟨x,hx,fun w=> ?_⟩;have hq: ¬ (9223372036854775807<(ByteArray.mk #[73,110,102,111]).size+t.size):=by rw [show (ByteArray.mk #[73,110,102,111]).size=4 from rfl];omega
  go_enter func29,ntmps29;go_wp2_with fail;refine(S _).mono ?_;rintro e w1 ⟨rfl,b1⟩;go_wp2_with fail;refine(C _).mono ?_;rintro e w2 ⟨rfl,b2⟩;go_wp2;go_ret;exact⟨rfl,b1.tr b2⟩
theorem dEl_on (h:Nat){q:Pt}(hq:on q):on (dEl h q):=by
  unfold dEl;split
  · exact gG_on
  · exact hq
theorem dev_uni (v:Value)(w0:World)(hv:Cod w0 v):
    ∃(m:Int) (key:Nat) (t:ByteArray) (ps:List Pt) (r:Nat),(∀p∈ps,on p)∧ps.length≤4∧∀w,Bl w0 w→Calls prog 6 #[v] w fun e w'=>(∃g cap,e= .returned (.tuple #[.int .i64 m,int u64 (key:Int),.string t,.slice (some ⟨g,0,none⟩) ps.length cap,int u64 (r:Int)])∧w'.ownsRow w.heap.size 34 3 (.slice (some ⟨g,0,none⟩) ps.length cap) ps.length (cells3 ps))∧Bl w w':=by
  obtain⟨m,s,t,p1,hm,hs,ht,hp1,TX⟩:=dtxt_uni v 0 w0 hv (by omega);obtain⟨k,hk,K1⟩:=dkey_uni v p1 w0 hv (by omega);obtain⟨h,hh,T1⟩:=take_uni v (p1+11) 24 w0 hv (by omega) (by omega) (by omega);obtain⟨n,hn,T2⟩:=take_uni v (p1+11+1) 4 w0 hv (by omega) (by omega) (by omega);obtain⟨r,hr,SC⟩:=dscal_uni v (p1+11+1+1) w0 hv (by omega);obtain⟨x0,hx0⟩:∃x0,x0=p1+11+1+1+10:=⟨_,rfl⟩
  obtain⟨Q,hQ⟩:=Classical.axiomOfChoice (r:=fun (i:Nat) (q:Pt)=>i≤4→on q∧∀w,Bl w0 w→Cr 28 #[v,.int .i64 ((x0+11*i:Nat):Int)] w (.tuple #[.agg #[int u64 (px q),int u64 (py q),.bool (pb q)],.int .i64 ((x0+11*(i+1):Nat):Int)])) (fun i=>by
    by_cases hi:i≤4
    · obtain⟨q,hq,D⟩:=dpt_uni v (x0+11*i) w0 hv (by omega);exact⟨q,fun _=>⟨hq,D⟩⟩
    · exact⟨none,fun h=>absurd h hi⟩)
  obtain⟨tw,htw,TW⟩:=twk_uni t ht
  obtain⟨N,hN⟩:∃N,h=2∧N=0∨ ¬ h=2∧N=n+1:=by
    by_cases h2:h=2
    · exact⟨0,.inl ⟨h2,rfl⟩⟩
    · exact⟨n+1,.inr ⟨h2,rfl⟩⟩
  obtain⟨key,hK⟩:∃key:Nat,h<2∧m=2∧(key:Int)=2305843010818082053-(tw:Int)∨ ¬ (h<2∧m=2)∧(key:Int)=(k:Int):=by
    by_cases h2:h<2∧m=2
    · obtain⟨z,hz⟩:∃z:Nat,(z:Int)=2305843010818082053-(tw:Int):=Int.eq_ofNat_of_zero_le (by omega)|>.imp fun _ h=>h.symm
      exact⟨z,.inl ⟨h2.1,h2.2,hz⟩⟩
    · exact⟨k,.inr ⟨h2,rfl⟩⟩
  obtain⟨r',hR⟩:∃r':Nat,h=4∧(r':Int)=IntKind.u64.wrap ((r:Int)+2305843010818082053)∨ ¬ h=4∧(r':Int)=(r:Int)%2305843010818082053:=by
    by_cases h4:h=4
    · obtain⟨z,hz⟩:∃z:Nat,(z:Int)=IntKind.u64.wrap ((r:Int)+2305843010818082053):=Int.eq_ofNat_of_zero_le (by rw [IntKind.wrap_u64];omega)|>.imp fun _ h=>h.symm
      exact⟨z,.inl ⟨h4,hz⟩⟩
    · obtain⟨z,hz⟩:∃z:Nat,(z:Int)=(r:Int)%2305843010818082053:=Int.eq_ofNat_of_zero_le (by omega)|>.imp fun _ h=>h.symm
      exact⟨z,.inr ⟨h4,hz⟩⟩
  have hl:(dEls h N Q).length=N:=by simp [dEls]
  refine⟨m,key,t,dEls h N Q,r',fun p hp=> ?_,by omega,fun w hw=> ?_⟩
  · unfold dEls at hp;obtain⟨i,hi,rfl⟩:=List.mem_map.1 hp;rw [List.mem_range] at hi;exact dEl_on h (hQ i (by omega)).1
  · have e1:((p1+11:Nat):Int)+1=((p1+11+1:Nat):Int):=by omega
    have e2:((p1+11+1:Nat):Int)+1=((p1+11+1+1:Nat):Int):=by omega
    rw [e1] at T1;rw [e2] at T2;rw [←hx0] at SC;rw [hl]
    exact dev_of v w m p1 (p1+11:Nat) (p1+11+1:Nat) (p1+11+1+1:Nat) x0 N s t k h n r tw key r' Q (by omega) (by omega) (by omega) hN hK hR
      (fun w' hb=>TX w' (hw.tr hb)) (fun w' hb=>K1 w' (hw.tr hb)) (fun w' hb=>T1 w' (hw.tr hb)) (fun w' hb=>T2 w' (hw.tr hb)) (fun w' hb=>SC w' (hw.tr hb))
      (fun i w' hi hb=>(hQ i hi).2 w' (hw.tr hb)) TW
end
section
variable {A:Act}{w:World}{dst:Option Tmp}{ty:TypeId}{ps:String}{af:Array Edge}{gd:Option (Nat×Bool)}{x y:Operand}{b i:Nat}
theorem sl_pts1 {x0:Operand}{x0' y0':Int}{c0':Bool}(h0:A.eval x0= .agg #[int u64 x0',int u64 y0',.bool c0']):
    Does prog (Opr dst (.buildSlice 24 1 #[(0,x0)]) ty ps af gd) A w fun v w'=>v= .slice (some ⟨w.heap.size,0,none⟩) 1 1∧w'=w.alloc (.cells #[int u64 x0',int u64 y0',.bool c0'] 34):=by
  have h:(execOp A.eval (Opr dst (.buildSlice 24 1 #[(0,x0)]) ty ps af gd)).run prog w= .ok (.value (.slice (some ⟨w.heap.size,0,none⟩) 1 1)) (w.alloc (.cells #[int u64 x0',int u64 y0',.bool c0'] 34)):=by generalize A.eval=ev at*;simp [execOp,h0,go_sem]
  exact does_value h ⟨rfl,rfl⟩
theorem ex_ptsl {v0:Value}{s:Option Addr}{n k:Nat}(hx:A.eval x= .pointer (some ⟨b,i,none⟩))(hy:A.eval y= .slice s n k)(hc:w.cell? ⟨b,i,none⟩=some v0)(hf:w.frozen? ⟨b,i,none⟩=false):
    (execOp A.eval (Opr dst (.store 24 x y) ty ps af gd)).run prog w= .ok .skip (w.setCell ⟨b,i,none⟩ (.slice s n k)):=by generalize A.eval=ev at*;simp [execOp,hx,hy,hc,hf,go_sem]
end
section
open M
section
variable (mode key r:Int)(info:ByteArray)(g n cap:Nat)(w:World)
theorem evS_t (T:∀w,Calls prog 30 #[.int .i64 mode,.string ⟨#[]⟩,.string info] w fun e w'=>e= .returned (.bool false)∧w=w'):
    Cr 7 #[.int .i64 mode,int u64 key,.string info,.slice (some ⟨g,0,none⟩) n cap,int u64 r] w (.tuple #[.agg #[.slice none 0 0,int u64 0,int u64 0],.int .i64 1]):=by
  obtain⟨X,hX⟩:∃X,X=(w.alloc (Obj.cells #[.slice none 0 0,int u64 0,int u64 0] 30)).alloc (Obj.cells #[.slice none 0 0,int u64 0,int u64 0] 30):=⟨_,rfl⟩;have rA:Bk X 30 w.heap.size #[.slice none 0 0,int u64 0,int u64 0]:=by rw [hX];exact(Bk.new _ _ _).alloc _
  have rN:Bk X 30 (w.heap.size+1) #[.slice none 0 0,int u64 0,int u64 0]:=by rw [hX];exact(Bk.new _ _ _).at (by simp)
  have hb:Bl w X:=by rw [hX];exact((Below.refl _ w).alloc (Nat.le_refl _) _).alloc (by simp) _
  rw [hX] at rA rN hb;clear hX;go_enter func7,ntmps7;go_wp2_with fail;refine(T _).mono ?_;rintro e w' ⟨rfl,rfl⟩;clear T;have c0:=rN.cell (k:=0) rfl;have c1:=rN.cell (k:=1) rfl;have c2:=rN.cell (k:=2) rfl;have hth:=rA.there 3 (by simp);have mk1:=True.intro;go_wp2_with (clear mk1;refine wpList_store_mid rfl 30 _ _ rfl w.heap.size 0 #[.slice none 0 0,int u64 0,int u64 0] rfl rfl hth sizeEvd (by kernel_rfl) ?_);exact bodyPost_ret (v:= .tuple #[.agg #[.slice none 0 0,int u64 0,int u64 0],.int .i64 1]) (bk_res2 (fn:=Tryz.f7) (p:=10) (u:=11) results7 _ rfl (rA.sets _ rfl) underlying30 rfl sizeEvd) rfl ⟨rfl,below_setCells hb (by omega) _ _⟩
theorem evS_k (T:∀w,Calls prog 30 #[.int .i64 mode,.string ⟨#[]⟩,.string info] w fun e w'=>e= .returned (.bool true)∧w=w')(K:∀w,Calls prog 31 #[int u64 key] w fun e w'=>e= .returned (.bool false)∧w=w'):
    Cr 7 #[.int .i64 mode,int u64 key,.string info,.slice (some ⟨g,0,none⟩) n cap,int u64 r] w (.tuple #[.agg #[.slice none 0 0,int u64 0,int u64 0],.int .i64 1]):=by
  obtain⟨X,hX⟩:∃X,X=(w.alloc (Obj.cells #[.slice none 0 0,int u64 0,int u64 0] 30)).alloc (Obj.cells #[.slice none 0 0,int u64 0,int u64 0] 30):=⟨_,rfl⟩;have rA:Bk X 30 w.heap.size #[.slice none 0 0,int u64 0,int u64 0]:=by rw [hX];exact(Bk.new _ _ _).alloc _
  have rN:Bk X 30 (w.heap.size+1) #[.slice none 0 0,int u64 0,int u64 0]:=by rw [hX];exact(Bk.new _ _ _).at (by simp)
  have hb:Bl w X:=by rw [hX];exact((Below.refl _ w).alloc (Nat.le_refl _) _).alloc (by simp) _
  rw [hX] at rA rN hb;clear hX;go_enter func7,ntmps7;go_wp2_with fail;refine(T _).mono ?_;rintro e w' ⟨rfl,rfl⟩;clear T;go_wp2_with fail;refine(K _).mono ?_;rintro e w' ⟨rfl,rfl⟩;clear K;have c0:=rN.cell (k:=0) rfl;have c1:=rN.cell (k:=1) rfl;have c2:=rN.cell (k:=2) rfl;have hth:=rA.there 3 (by simp);have mk1:=True.intro;go_wp2_with (clear mk1;refine wpList_store_mid rfl 30 _ _ rfl w.heap.size 0 #[.slice none 0 0,int u64 0,int u64 0] rfl rfl hth sizeEvd (by kernel_rfl) ?_);exact bodyPost_ret (v:= .tuple #[.agg #[.slice none 0 0,int u64 0,int u64 0],.int .i64 1]) (bk_res2 (fn:=Tryz.f7) (p:=10) (u:=11) results7 _ rfl (rA.sets _ rfl) underlying30 rfl sizeEvd) rfl ⟨rfl,below_setCells hb (by omega) _ _⟩
theorem evS_r (T:∀w,Calls prog 30 #[.int .i64 mode,.string ⟨#[]⟩,.string info] w fun e w'=>e= .returned (.bool true)∧w=w')(K:∀w,Calls prog 31 #[int u64 key] w fun e w'=>e= .returned (.bool true)∧w=w')(hr:(2305843010818082053:Int)≤r):
    Cr 7 #[.int .i64 mode,int u64 key,.string info,.slice (some ⟨g,0,none⟩) n cap,int u64 r] w (.tuple #[.agg #[.slice none 0 0,int u64 0,int u64 0],.int .i64 1]):=by
  obtain⟨X,hX⟩:∃X,X=(w.alloc (Obj.cells #[.slice none 0 0,int u64 0,int u64 0] 30)).alloc (Obj.cells #[.slice none 0 0,int u64 0,int u64 0] 30):=⟨_,rfl⟩;have rA:Bk X 30 w.heap.size #[.slice none 0 0,int u64 0,int u64 0]:=by rw [hX];exact(Bk.new _ _ _).alloc _
  have rN:Bk X 30 (w.heap.size+1) #[.slice none 0 0,int u64 0,int u64 0]:=by rw [hX];exact(Bk.new _ _ _).at (by simp)
  have hb:Bl w X:=by rw [hX];exact((Below.refl _ w).alloc (Nat.le_refl _) _).alloc (by simp) _
  rw [hX] at rA rN hb;clear hX;go_enter func7,ntmps7;go_wp2_with fail;refine(T _).mono ?_;rintro e w' ⟨rfl,rfl⟩;clear T;go_wp2_with fail;refine(K _).mono ?_;rintro e w' ⟨rfl,rfl⟩;clear K;have c0:=rN.cell (k:=0) rfl;have c1:=rN.cell (k:=1) rfl;have c2:=rN.cell (k:=2) rfl;have hth:=rA.there 3 (by simp);have mk1:=True.intro;go_wp2_with (clear mk1;refine wpList_store_mid rfl 30 _ _ rfl w.heap.size 0 #[.slice none 0 0,int u64 0,int u64 0] rfl rfl hth sizeEvd (by kernel_rfl) ?_);exact bodyPost_ret (v:= .tuple #[.agg #[.slice none 0 0,int u64 0,int u64 0],.int .i64 1]) (bk_res2 (fn:=Tryz.f7) (p:=10) (u:=11) results7 _ rfl (rA.sets _ rfl) underlying30 rfl sizeEvd) rfl ⟨rfl,below_setCells hb (by omega) _ _⟩
theorem evS_0 (T:∀w,Calls prog 30 #[.int .i64 mode,.string ⟨#[]⟩,.string info] w fun e w'=>e= .returned (.bool true)∧w=w')(K:∀w,Calls prog 31 #[int u64 key] w fun e w'=>e= .returned (.bool true)∧w=w')(hr: ¬ (2305843010818082053:Int)≤r)(hn:(n:Int)<1):
    Cr 7 #[.int .i64 mode,int u64 key,.string info,.slice (some ⟨g,0,none⟩) n cap,int u64 r] w (.tuple #[.agg #[.slice none 0 0,int u64 0,int u64 0],.int .i64 1]):=by
  obtain⟨X,hX⟩:∃X,X=(w.alloc (Obj.cells #[.slice none 0 0,int u64 0,int u64 0] 30)).alloc (Obj.cells #[.slice none 0 0,int u64 0,int u64 0] 30):=⟨_,rfl⟩;have rA:Bk X 30 w.heap.size #[.slice none 0 0,int u64 0,int u64 0]:=by rw [hX];exact(Bk.new _ _ _).alloc _
  have rN:Bk X 30 (w.heap.size+1) #[.slice none 0 0,int u64 0,int u64 0]:=by rw [hX];exact(Bk.new _ _ _).at (by simp)
  have hb:Bl w X:=by rw [hX];exact((Below.refl _ w).alloc (Nat.le_refl _) _).alloc (by simp) _
  rw [hX] at rA rN hb;clear hX;go_enter func7,ntmps7;go_wp2_with fail;refine(T _).mono ?_;rintro e w' ⟨rfl,rfl⟩;clear T;go_wp2_with fail;refine(K _).mono ?_;rintro e w' ⟨rfl,rfl⟩;clear K;have c0:=rN.cell (k:=0) rfl;have c1:=rN.cell (k:=1) rfl;have c2:=rN.cell (k:=2) rfl;have hth:=rA.there 3 (by simp);have mk1:=True.intro;go_wp2_with (clear mk1;refine wpList_store_mid rfl 30 _ _ rfl w.heap.size 0 #[.slice none 0 0,int u64 0,int u64 0] rfl rfl hth sizeEvd (by kernel_rfl) ?_);exact bodyPost_ret (v:= .tuple #[.agg #[.slice none 0 0,int u64 0,int u64 0],.int .i64 1]) (bk_res2 (fn:=Tryz.f7) (p:=10) (u:=11) results7 _ rfl (rA.sets _ rfl) underlying30 rfl sizeEvd) rfl ⟨rfl,below_setCells hb (by omega) _ _⟩
theorem evS_9 (T:∀w,Calls prog 30 #[.int .i64 mode,.string ⟨#[]⟩,.string info] w fun e w'=>e= .returned (.bool true)∧w=w')(K:∀w,Calls prog 31 #[int u64 key] w fun e w'=>e= .returned (.bool true)∧w=w')(hr: ¬ (2305843010818082053:Int)≤r)(hn: ¬ (n:Int)<1)(hn2:(200:Int)<(n:Int)):
    Cr 7 #[.int .i64 mode,int u64 key,.string info,.slice (some ⟨g,0,none⟩) n cap,int u64 r] w (.tuple #[.agg #[.slice none 0 0,int u64 0,int u64 0],.int .i64 1]):=by
  obtain⟨X,hX⟩:∃X,X=(w.alloc (Obj.cells #[.slice none 0 0,int u64 0,int u64 0] 30)).alloc (Obj.cells #[.slice none 0 0,int u64 0,int u64 0] 30):=⟨_,rfl⟩;have rA:Bk X 30 w.heap.size #[.slice none 0 0,int u64 0,int u64 0]:=by rw [hX];exact(Bk.new _ _ _).alloc _
  have rN:Bk X 30 (w.heap.size+1) #[.slice none 0 0,int u64 0,int u64 0]:=by rw [hX];exact(Bk.new _ _ _).at (by simp)
  have hb:Bl w X:=by rw [hX];exact((Below.refl _ w).alloc (Nat.le_refl _) _).alloc (by simp) _
  rw [hX] at rA rN hb;clear hX;go_enter func7,ntmps7;go_wp2_with fail;refine(T _).mono ?_;rintro e w' ⟨rfl,rfl⟩;clear T;go_wp2_with fail;refine(K _).mono ?_;rintro e w' ⟨rfl,rfl⟩;clear K;have c0:=rN.cell (k:=0) rfl;have c1:=rN.cell (k:=1) rfl;have c2:=rN.cell (k:=2) rfl;have hth:=rA.there 3 (by simp);have mk1:=True.intro;go_wp2_with (clear mk1;refine wpList_store_mid rfl 30 _ _ rfl w.heap.size 0 #[.slice none 0 0,int u64 0,int u64 0] rfl rfl hth sizeEvd (by kernel_rfl) ?_);exact bodyPost_ret (v:= .tuple #[.agg #[.slice none 0 0,int u64 0,int u64 0],.int .i64 1]) (bk_res2 (fn:=Tryz.f7) (p:=10) (u:=11) results7 _ rfl (rA.sets _ rfl) underlying30 rfl sizeEvd) rfl ⟨rfl,below_setCells hb (by omega) _ _⟩
theorem evS_e (es:List Tri)(T:∀w,Calls prog 30 #[.int .i64 mode,.string ⟨#[]⟩,.string info] w fun e w'=>e= .returned (.bool true)∧w=w')(K:∀w,Calls prog 31 #[int u64 key] w fun e w'=>e= .returned (.bool true)∧w=w')(hr: ¬ (2305843010818082053:Int)≤r)(h1:1≤n)(hn:n≤200)(hl:es.length=n)(hp:Pts w g 0 es)(hR:Hid (es.all elT=false)):
    Cr 7 #[.int .i64 mode,int u64 key,.string info,.slice (some ⟨g,0,none⟩) n cap,int u64 r] w (.tuple #[.agg #[.slice none 0 0,int u64 0,int u64 0],.int .i64 1]):=by
  have hl':Hid (es.length=n):=hl;have k1: ¬ (n:Int)<1:=by omega
  have k2: ¬ (200:Int)<(n:Int):=by omega
  clear hl;obtain⟨X,hX⟩:∃X,X=(w.alloc (Obj.cells #[.slice none 0 0,int u64 0,int u64 0] 30)).alloc (Obj.cells #[.slice none 0 0,int u64 0,int u64 0] 30):=⟨_,rfl⟩;have rA:Bk X 30 w.heap.size #[.slice none 0 0,int u64 0,int u64 0]:=by rw [hX];exact(Bk.new _ _ _).alloc _
  have rN:Bk X 30 (w.heap.size+1) #[.slice none 0 0,int u64 0,int u64 0]:=by rw [hX];exact(Bk.new _ _ _).at (by simp)
  have hb:Bl w X:=by rw [hX];exact((Below.refl _ w).alloc (Nat.le_refl _) _).alloc (by simp) _
  rw [hX] at rA rN hb;clear hX;go_enter func7,ntmps7;go_wp2_with fail;refine(T _).mono ?_;rintro e w' ⟨rfl,rfl⟩;clear T;go_wp2_with fail;refine(K _).mono ?_;rintro e w' ⟨rfl,rfl⟩;clear K;go_wp2;clear k1 k2;generalize (w.alloc _).alloc _=X at*
  go_loopw [13] (fun iv wr=>∃j:Nat,j≤n∧iv= .int .i64 (j:Int)∧Hid (∀i,i<j→∃t,es[i]? =some t∧elT t=true)∧Bl X wr) (fun i _=>n-(intOf i).toNat)
  case atStart=>exact ⟨0,by omega,rfl,fun i hi=>by omega,Below.refl _ _⟩
  case round=>
    obtain⟨j,hj,rfl,hall,hbl⟩:=hrel;by_cases hlt:j<n
    · have hli:(j:Int)<(n:Int):=by omega
      obtain⟨t,ht⟩:∃t,es[j]? =some t:=⟨_,List.getElem?_eq_getElem (by have:=hl'.out;omega)⟩;have hB:=hb.tr hbl;have pp:=hp.below hB hp.lt;have c0:=pp.c0 j t ht;have c1:=pp.c1 j t ht;have c2:=pp.c2 j t ht;rw [Nat.zero_add] at c0 c1 c2;have F:=elS_any t;have hRt:Hid (elT t=false→es.all elT=false):=fun h=>List.all_eq_false.2 ⟨t,List.mem_of_getElem? ht,by rw [h];decide⟩
      have hnxt:Hid (elT t=true→∀i,i<j+1→∃t,es[i]? =some t∧elT t=true):=fun h i hi=>by
        by_cases hik:i=j
        · subst hik;exact⟨t,ht,h⟩
        · exact hall.out i (by omega)
      obtain⟨tx,ty,tc⟩:=t;dsimp only at c0 c1 c2 F;clear ht pp hall hB;generalize elT (tx,ty,tc)=ot at*;go_wp2_with fail;refine(F _).mono ?_;rintro e w2 ⟨rfl,b2⟩;replace hbl:=hbl.tr b2;clear F b2 c0 c1 c2
      cases ot with
      | false=>
        clear hRt hnxt hR;replace rA:=rA.keep hbl;replace rN:=rN.keep hbl;replace hb:=hb.tr hbl;clear hbl;have c0:=rN.cell (k:=0) rfl;have c1:=rN.cell (k:=1) rfl;have c2:=rN.cell (k:=2) rfl;have hth:=rA.there 3 (by simp);have mk1:=True.intro;go_wp2_with (clear mk1;refine wpList_store_mid rfl 30 _ _ rfl w.heap.size 0 #[.slice none 0 0,int u64 0,int u64 0] rfl rfl hth sizeEvd (by kernel_rfl) ?_);exact bodyPost_ret (v:= .tuple #[.agg #[.slice none 0 0,int u64 0,int u64 0],.int .i64 1]) (bk_res2 (fn:=Tryz.f7) (p:=10) (u:=11) results7 _ rfl (rA.sets _ rfl) underlying30 rfl sizeEvd) rfl ⟨rfl,below_setCells hb (by omega) _ _⟩
      | true=>
        have hn2:Hid (∀i,i<j+1→∃t,es[i]? =some t∧elT t=true):=hnxt.out (by trivial);clear hRt hnxt;go_wp2;go_roundw
        case rel=>
          first
            |exact ⟨j+1,by omega,by go_num,hn2,hbl⟩
            |((repeat apply Exists.intro);exact⟨⟨j+1,by omega,by go_num,hn2,hbl⟩,rfl⟩)
        case measure=>simp [intOf];omega
    · obtain rfl:n=j:=by omega
      have hra:es.all elT=true:=by
        rw [List.all_eq_true];intro t ht;obtain⟨i,hi⟩:=List.getElem?_of_mem ht;obtain⟨t',h',h''⟩:=hall.out i (by have:=(List.getElem?_eq_some_iff.1 hi).1;have:=hl'.out;omega);rw [hi] at h';cases h';exact h''
      clear hall;exact absurd hra (by rw [hR.out];decide)
theorem evS_f (es:List Tri)(T:∀w,Calls prog 30 #[.int .i64 mode,.string ⟨#[]⟩,.string info] w fun e w'=>e= .returned (.bool true)∧w=w')(K:∀w,Calls prog 31 #[int u64 key] w fun e w'=>e= .returned (.bool true)∧w=w')(hr: ¬ (2305843010818082053:Int)≤r)(h1:1≤n)(hn:n≤200)(hl:es.length=n)(hp:Pts w g 0 es)(hR:Hid (es.all elT=true))(cd:Int)(hcd: ¬ cd=0)(F:Cc 33 #[.int .i64 mode,int u64 key,.string info] (.tuple #[int u64 0,int u64 0,.int .i64 cd])):
    Cr 7 #[.int .i64 mode,int u64 key,.string info,.slice (some ⟨g,0,none⟩) n cap,int u64 r] w (.tuple #[.agg #[.slice none 0 0,int u64 0,int u64 0],.int .i64 cd]):=by
  have hl':Hid (es.length=n):=hl;have k1: ¬ (n:Int)<1:=by omega
  have k2: ¬ (200:Int)<(n:Int):=by omega
  clear hl;obtain⟨X,hX⟩:∃X,X=(w.alloc (Obj.cells #[.slice none 0 0,int u64 0,int u64 0] 30)).alloc (Obj.cells #[.slice none 0 0,int u64 0,int u64 0] 30):=⟨_,rfl⟩;have rA:Bk X 30 w.heap.size #[.slice none 0 0,int u64 0,int u64 0]:=by rw [hX];exact(Bk.new _ _ _).alloc _
  have rN:Bk X 30 (w.heap.size+1) #[.slice none 0 0,int u64 0,int u64 0]:=by rw [hX];exact(Bk.new _ _ _).at (by simp)
  have hb:Bl w X:=by rw [hX];exact((Below.refl _ w).alloc (Nat.le_refl _) _).alloc (by simp) _
  rw [hX] at rA rN hb;clear hX;go_enter func7,ntmps7;go_wp2_with fail;refine(T _).mono ?_;rintro e w' ⟨rfl,rfl⟩;clear T;go_wp2_with fail;refine(K _).mono ?_;rintro e w' ⟨rfl,rfl⟩;clear K;go_wp2;clear k1 k2;generalize (w.alloc _).alloc _=X at*
  go_loopw [13] (fun iv wr=>∃j:Nat,j≤n∧iv= .int .i64 (j:Int)∧Hid (∀i,i<j→∃t,es[i]? =some t∧elT t=true)∧Bl X wr) (fun i _=>n-(intOf i).toNat)
  case atStart=>exact ⟨0,by omega,rfl,fun i hi=>by omega,Below.refl _ _⟩
  case round=>
    obtain⟨j,hj,rfl,hall,hbl⟩:=hrel;by_cases hlt:j<n
    · have hli:(j:Int)<(n:Int):=by omega
      obtain⟨t,ht⟩:∃t,es[j]? =some t:=⟨_,List.getElem?_eq_getElem (by have:=hl'.out;omega)⟩;have hB:=hb.tr hbl;have pp:=hp.below hB hp.lt;have c0:=pp.c0 j t ht;have c1:=pp.c1 j t ht;have c2:=pp.c2 j t ht;rw [Nat.zero_add] at c0 c1 c2;have F:=elS_any t;have hRt:Hid (elT t=false→es.all elT=false):=fun h=>List.all_eq_false.2 ⟨t,List.mem_of_getElem? ht,by rw [h];decide⟩
      have hnxt:Hid (elT t=true→∀i,i<j+1→∃t,es[i]? =some t∧elT t=true):=fun h i hi=>by
        by_cases hik:i=j
        · subst hik;exact⟨t,ht,h⟩
        · exact hall.out i (by omega)
      obtain⟨tx,ty,tc⟩:=t;dsimp only at c0 c1 c2 F;clear ht pp hall hB;generalize elT (tx,ty,tc)=ot at*;go_wp2_with fail;refine(F _).mono ?_;rintro e w2 ⟨rfl,b2⟩;replace hbl:=hbl.tr b2;clear F b2 c0 c1 c2
      cases ot with
      | false=>
        exact absurd (hRt.out (by trivial)) (by rw [hR.out];decide)
      | true=>
        have hn2:Hid (∀i,i<j+1→∃t,es[i]? =some t∧elT t=true):=hnxt.out (by trivial);clear hRt hnxt;go_wp2;go_roundw
        case rel=>
          first
            |exact ⟨j+1,by omega,by go_num,hn2,hbl⟩
            |((repeat apply Exists.intro);exact⟨⟨j+1,by omega,by go_num,hn2,hbl⟩,rfl⟩)
        case measure=>simp [intOf];omega
    · obtain rfl:n=j:=by omega
      have hra:es.all elT=true:=by
        rw [List.all_eq_true];intro t ht;obtain⟨i,hi⟩:=List.getElem?_of_mem ht;obtain⟨t',h',h''⟩:=hall.out i (by have:=(List.getElem?_eq_some_iff.1 hi).1;have:=hl'.out;omega);rw [hi] at h';cases h';exact h''
      clear hall;replace rA:=rA.keep hbl;replace rN:=rN.keep hbl;replace hb:=hb.tr hbl;clear hbl hra;go_wp2_with fail;refine(F _).mono ?_;rintro e w3 ⟨rfl,b3⟩;replace rA:=rA.keep b3;replace rN:=rN.keep b3;replace hb:=hb.tr b3;clear F b3;have c0:=rN.cell (k:=0) rfl;have c1:=rN.cell (k:=1) rfl;have c2:=rN.cell (k:=2) rfl;have hth:=rA.there 3 (by simp);have mk1:=True.intro;go_wp2_with (clear mk1;refine wpList_store_mid rfl 30 _ _ rfl w.heap.size 0 #[.slice none 0 0,int u64 0,int u64 0] rfl rfl hth sizeEvd (by kernel_rfl) ?_);exact bodyPost_ret (v:= .tuple #[.agg #[.slice none 0 0,int u64 0,int u64 0],.int .i64 cd]) (bk_res2 (fn:=Tryz.f7) (p:=10) (u:=11) results7 _ rfl (rA.sets _ rfl) underlying30 rfl sizeEvd) rfl ⟨rfl,below_setCells hb (by omega) _ _⟩
theorem own_sides {W w':World}{S:List Nat}{B:Nat}{e:TypeId}{s:Nat}{v:Value}{n:Nat}{xs:List Value}(h:W.ownsRow B e s v n xs)(hS:G.Sides S W w')(hne:∀b∈S,some b≠v.ownBlock):w'.ownsRow B e s v n xs:=by
  refine⟨h.1,?_⟩;rcases h.2 with h2|⟨g,cap,cur,rfl,hbg,hg,hr⟩
  · exact .inl h2
  · refine .inr ⟨g,cap,cur,rfl,hbg,?_,hr⟩;rw [hS.block g (Array.getElem?_eq_some_iff.1 hg).1 (fun hm=>hne g hm rfl)];exact hg
theorem evS_g (es:List Tri)(T:∀w,Calls prog 30 #[.int .i64 mode,.string ⟨#[]⟩,.string info] w fun e w'=>e= .returned (.bool true)∧w=w')(K:∀w,Calls prog 31 #[int u64 key] w fun e w'=>e= .returned (.bool true)∧w=w')(hr: ¬ (2305843010818082053:Int)≤r)(h1:1≤n)(hn:n≤200)(hl:es.length=n)(hp:Pts w g 0 es)(hR:Hid (es.all elT=true))(fN:Nat)(tN pc ps:Int)(pu:Pt)(hfN:fN<18446744073709551616)(F:Cc 33 #[.int .i64 mode,int u64 key,.string info] (.tuple #[int u64 (fN:Int),int u64 tN,.int .i64 0]))
    (TP:Cc 15 #[int u64 tN,.agg #[int u64 (px gG),int u64 (py gG),.bool (pb gG)]] (.agg #[int u64 (px pu),int u64 (py pu),.bool (pb pu)]))
    (HP:((mode==1)=false∧(mode==2)=false∧pc=0∧ps=0)∨(mode=1∧(∀w' v,Bl w w'→w'.ownsRow w.heap.size 34 3 v n (cells3 (es.map fun t=>nt fN (asT t)))→Cr 34 #[.int .i64 1,int u64 tN,.agg #[int u64 (px gG),int u64 (py gG),.bool (pb gG)],.agg #[int u64 (px pu),int u64 (py pu),.bool (pb pu)],.slice (some ⟨g,0,none⟩) n cap,v,int u64 r] w' (.tuple #[.agg #[int u64 pc,int u64 ps],.bool true])))∨(mode=2∧(∀w' v,Bl w w'→w'.ownsRow w.heap.size 34 3 v n (cells3 (es.map fun t=>nt fN (asT t)))→Cr 34 #[.int .i64 2,int u64 tN,.agg #[int u64 (px gG),int u64 (py gG),.bool (pb gG)],.agg #[int u64 (px pu),int u64 (py pu),.bool (pb pu)],v,.slice (some ⟨g,0,none⟩) n cap,int u64 r] w' (.tuple #[.agg #[int u64 pc,int u64 ps],.bool true])))):
    Calls prog 7 #[.int .i64 mode,int u64 key,.string info,.slice (some ⟨g,0,none⟩) n cap,int u64 r] w fun e w'=>∃v,e= .returned (.tuple #[.agg #[v,int u64 pc,int u64 ps],.int .i64 0])∧w'.ownsRow w.heap.size 34 3 v n (cells3 (es.map fun t=>nt fN (asT t)))∧Bl w w':=by
  obtain⟨i0,hi,hz0,hz1,hz2⟩:=info_parts infoP3;obtain⟨CS,hCS⟩:∃CS,Hid (CS=fun j=>cells3 ((es.take j).map fun t=>nt fN (asT t))):=⟨_,rfl⟩
  have hst:Hid (∀j,j<n→∃t:Tri,es[j]? =some t∧CS (j+1)=CS j++ [int u64 (px (nt fN (asT t))),int u64 (py (nt fN (asT t))),.bool (pb (nt fN (asT t)))]):=fun j hj=>by
    obtain⟨t,ht⟩:∃t,es[j]? =some t:=⟨_,List.getElem?_eq_getElem (by omega)⟩;refine⟨t,ht,?_⟩;rw [hCS.out];simp only;rw [List.take_add_one,ht,List.map_append,cells3_app];rfl
  have hC0:CS 0= []:=by rw [hCS.out];rfl
  have hCn:Hid (CS n=cells3 (es.map fun t=>nt fN (asT t))):=by simp only [Hid];rw [hCS.out,←hl];simp
  clear hCS;have hl':Hid (es.length=n):=hl;have k1: ¬ (n:Int)<1:=by omega
  have k2: ¬ (200:Int)<(n:Int):=by omega
  clear hl;obtain⟨X,hX⟩:∃X,X=(w.alloc (Obj.cells #[.slice none 0 0,int u64 0,int u64 0] 30)).alloc (Obj.cells #[.slice none 0 0,int u64 0,int u64 0] 30):=⟨_,rfl⟩;have rA:Bk X 30 w.heap.size #[.slice none 0 0,int u64 0,int u64 0]:=by rw [hX];exact(Bk.new _ _ _).alloc _
  have rN:Bk X 30 (w.heap.size+1) #[.slice none 0 0,int u64 0,int u64 0]:=by rw [hX];exact(Bk.new _ _ _).at (by simp)
  have hb:Bl w X:=by rw [hX];exact((Below.refl _ w).alloc (Nat.le_refl _) _).alloc (by simp) _
  rw [hX] at rA rN hb;clear hX;go_enter func7,ntmps7;go_wp2_with fail;refine(T _).mono ?_;rintro e w' ⟨rfl,rfl⟩;clear T;go_wp2_with fail;refine(K _).mono ?_;rintro e w' ⟨rfl,rfl⟩;clear K;go_wp2;clear k1 k2;generalize (w.alloc _).alloc _=X at*
  go_loopw [13] (fun iv wr=>∃j:Nat,j≤n∧iv= .int .i64 (j:Int)∧Hid (∀i,i<j→∃t,es[i]? =some t∧elT t=true)∧Bl X wr) (fun i _=>n-(intOf i).toNat)
  case atStart=>exact ⟨0,by omega,rfl,fun i hi=>by omega,Below.refl _ _⟩
  case round=>
    obtain⟨j,hj,rfl,hall,hbl⟩:=hrel;by_cases hlt:j<n
    · have hli:(j:Int)<(n:Int):=by omega
      obtain⟨t,ht⟩:∃t,es[j]? =some t:=⟨_,List.getElem?_eq_getElem (by have:=hl'.out;omega)⟩;have hB:=hb.tr hbl;have pp:=hp.below hB hp.lt;have c0:=pp.c0 j t ht;have c1:=pp.c1 j t ht;have c2:=pp.c2 j t ht;rw [Nat.zero_add] at c0 c1 c2;have F:=elS_any t;have hRt:Hid (elT t=false→es.all elT=false):=fun h=>List.all_eq_false.2 ⟨t,List.mem_of_getElem? ht,by rw [h];decide⟩
      have hnxt:Hid (elT t=true→∀i,i<j+1→∃t,es[i]? =some t∧elT t=true):=fun h i hi=>by
        by_cases hik:i=j
        · subst hik;exact⟨t,ht,h⟩
        · exact hall.out i (by omega)
      obtain⟨tx,ty,tc⟩:=t;dsimp only at c0 c1 c2 F;clear ht pp hall hB;generalize elT (tx,ty,tc)=ot at*;go_wp2_with fail;refine(F _).mono ?_;rintro e w2 ⟨rfl,b2⟩;replace hbl:=hbl.tr b2;clear F b2 c0 c1 c2
      cases ot with
      | false=>
        exact absurd (hRt.out (by trivial)) (by rw [hR.out];decide)
      | true=>
        have hn2:Hid (∀i,i<j+1→∃t,es[i]? =some t∧elT t=true):=hnxt.out (by trivial);clear hRt hnxt;go_wp2;go_roundw
        case rel=>
          first
            |exact ⟨j+1,by omega,by go_num,hn2,hbl⟩
            |((repeat apply Exists.intro);exact⟨⟨j+1,by omega,by go_num,hn2,hbl⟩,rfl⟩)
        case measure=>simp [intOf];omega
    · obtain rfl:n=j:=by omega
      have hra:es.all elT=true:=by
        rw [List.all_eq_true];intro t ht;obtain⟨i,hi⟩:=List.getElem?_of_mem ht;obtain⟨t',h',h''⟩:=hall.out i (by have:=(List.getElem?_eq_some_iff.1 hi).1;have:=hl'.out;omega);rw [hi] at h';cases h';exact h''
      clear hall;replace rA:=rA.keep hbl;clear rN;replace hb:=hb.tr hbl;clear hbl hra;go_wp2_with fail;refine(F _).mono ?_;rintro e w3 ⟨rfl,b3⟩;replace rA:=rA.keep b3;replace hb:=hb.tr b3;clear F b3;have rO:=Bk.new w3 30 #[.slice none 0 0,int u64 0,int u64 0];have hal:=balc w3 (Obj.cells #[.slice none 0 0,int u64 0,int u64 0] 30);have hlt:w.heap.size<w3.heap.size:=rA.lt;replace rA:=rA.keep hal;replace hb:=hb.tr hal;clear hal;go_wp2;generalize w3.alloc _=X3 at*;generalize w3.heap.size=BO at*
      go_loopw [18] (fun iv wr=>∃(j:Nat) (v:Value),j≤n∧iv= .int .i64 (j:Int)∧wr.ownsRow (BO+1) 34 3 v j (CS j)∧Bk wr 30 BO #[v,int u64 0,int u64 0]∧Below BO X3 wr) (fun i _=>n-(intOf i).toNat)
      case atStart=>exact ⟨0,.slice none 0 0,by omega,rfl,by rw [hC0];exact World.ownsRow_nil _ _ _ _,rO,Below.refl _ _⟩
      case round=>
        clear rO hC0;obtain⟨j,v,hj,rfl,hown,rO,hbl⟩:=hrel;have hB:=hb.trans (hbl.mono (Nat.le_of_lt hlt));have hsO:=rO.lt;have hlt0:=hlt;by_cases hlt:j<n
        · have hli:(j:Int)<(n:Int):=by omega
          obtain⟨t,ht,hnx⟩:=hst.out j hlt;have pp:=(hp.below hB hp.lt).drew;have c0:=pp.c0 j t ht;have c1:=pp.c1 j t ht;have c2:=pp.c2 j t ht;have TM:=fun w=>tiS_tri fN t w hfN
          obtain⟨tx,ty,tc⟩:=t;dsimp only at c0 c1 c2 TM;generalize nt fN (asT (tx,ty,tc))=q at*;clear ht pp hB;have m0:wr.drew.cell? ⟨BO,0,none⟩=_:=rO.cell (k:=0) rfl;go_wp2
          refine G.pool_prT (W:=wr) [] 9 [.val (.pointer (some ⟨BO,0,none⟩)),
              .val (v),
              .val (int u64 (fN:Int)),
              .val (.slice (some ⟨g,0,none⟩) n cap),
              .val (.int .i64 (j:Int)),
              .val (.pointer (some ⟨g,0+j*3,none⟩)),
              .val (.agg #[int u64 (tx:Int),int u64 (ty:Int),.bool tc]),
              .val (.agg #[int u64 (px q),int u64 (py q),.bool (pb q)]),
              .new (.cells #[int u64 (px q),int u64 (py q),.bool (pb q)] 34) (.cells #[int u64 (px q),int u64 (py q),.bool (pb q)] 34) 1001] [[17],[78],[14],[3],[18],[81,82],[83],[80,84],[85]] (fun f=> [(some 78,.pointer (some ⟨BO,0,none⟩)),(some 79,v),(some 80,int u64 (fN:Int)),(some 81,.slice (some ⟨g,0,none⟩) n cap),(some 82,.int .i64 (j:Int)),(some 83,.pointer (some ⟨g,0+j*3,none⟩)),(some 84,.agg #[int u64 (tx:Int),int u64 (ty:Int),.bool tc]),(some 85,.agg #[int u64 (px q),int u64 (py q),.bool (pb q)]),(some 86,.slice (some ⟨f 8,0,none⟩) 1 1)]) (by kernel_rfl) (by kernel_rfl) (by kernel_rfl) (by kernel_rfl) (by decide) (by kernel_rfl) (fun _=>by kernel_rfl) (G.last_of [.cells #[int u64 (px q),int u64 (py q),.bool (pb q)] 34] (fun F R hm=>by simp at hm) (fun ob ob' k hm=>by simp at hm;simp [hm]) (fun b ob ob' hm=>by simp at hm)) (fun b ob ob' hm=>by simp at hm) ?_ ?_
          · intro ix hix
            match ix,hix with
            |0,_=>exact G.obv [(17,.pointer (some ⟨BO,0,none⟩))] rfl rfl (fun A w ⟨e0,_⟩ hB=>fa_evd0 e0)
            |1,_=>exact G.obv [(78,.pointer (some ⟨BO,0,none⟩))] rfl rfl (fun A w ⟨e0,_⟩ hB=>ld_ptsl e0 (hB.cell m0 (by simp)))
            |2,_=>exact G.obv [(14,int u64 (fN:Int))] rfl rfl (fun A w ⟨e0,_⟩ hB=>doV_move e0)
            |3,_=>exact G.obv [(3,.slice (some ⟨g,0,none⟩) n cap)] rfl rfl (fun A w ⟨e0,_⟩ hB=>doV_move e0)
            |4,_=>exact G.obv [(18,.int .i64 (j:Int))] rfl rfl (fun A w ⟨e0,_⟩ hB=>doV_move e0)
            |5,_=>exact G.obv [(81,.slice (some ⟨g,0,none⟩) n cap),(82,.int .i64 (j:Int))] rfl rfl (fun A w ⟨e0,e1,_⟩ hB=>ix_pts e0 e1 (by omega))
            |6,_=>exact G.obv [(83,.pointer (some ⟨g,0+j*3,none⟩))] rfl rfl (fun A w ⟨e0,_⟩ hB=>ld_pt e0 (hB.cell c0 (by simp)) (hB.cell c1 (by simp)) (hB.cell c2 (by simp)))
            |7,_=>exact G.obv [(80,int u64 (fN:Int)),(84,.agg #[int u64 (tx:Int),int u64 (ty:Int),.bool tc])] rfl rfl (fun A w ⟨e0,e1,_⟩ hB=>cl2 cf_spec_Times e0 e1 (TM w))
            |8,_=>exact G.ob_slc 1 [(85,.agg #[int u64 (px q),int u64 (py q),.bool (pb q)])] rfl rfl (fun _=>by kernel_rfl) (fun A w ⟨e0,_⟩=>sl_pts1 e0)
            |ix+9,h=>exact absurd h (by simp)
          intro f W4 hS hnew _ _ fuel hfuel;have hb4:Bl wr W4:=(Below.refl _ wr).drew.trans hS.below;have hcell:=(hnew 8 _ _ _ rfl (by decide)).2;replace rO:=rO.keep hb4;have hown4:=below_own3 hown hb4;have hbl4:=hbl.trans (hb4.mono (by omega));have hs4:BO+1≤W4.heap.size:=rO.lt;clear hS hnew hb4 hbl hown m0 c0 c1 c2 TM;simp only [puts,List.foldl,Act.put,List.setIfInBounds_toArray,List.set_cons_zero,List.set_cons_succ]
          refine last_do3 9 10 11 hfuel (by kernel_rfl) (by kernel_rfl) (by kernel_rfl) (by kernel_rfl) rfl rfl rfl rfl rfl rfl
            (does_append_ow _ _ 24 rfl (BO+1) 34 i0 (.agg #[int u64 0,int u64 0,.bool false]) 3 24 underlying24 hi hz0 hz1 hz2 rfl (by decide) v j (CS j) rfl hown4 ⟨f 8,0,none⟩ 1 1 [int u64 (px q),int u64 (py q),.bool (pb q)] rfl rfl (World.news_of_block (cs:=#[int u64 (px q),int u64 (py q),.bool (pb q)]) hcell) (by simp [Value.oneCell']) (by decide) (by unfold maxLen;omega) (by omega) hs4)
            (fun y w' _=>fa_evd0 (b:=BO) (i:=0) rfl) ?_
          rintro y w5 y2 w6 ⟨g5,cap5,rfl,hown5,hgr⟩ ⟨rfl,b6⟩;have nO:some BO≠v.ownBlock:=own_ne_bk hown4 rO (by decide);replace rO:=(rO.grown hgr nO).keep b6;replace hown5:=below_own3 hown5 b6;have hbl5:=hbl4.grown hgr (by omega) (fun r hr=>Nat.le_of_succ_le (hown4.lt r hr).1);have hbl6:=hbl5.trans (b6.mono (Nat.le_trans (by omega) hgr.size));refine does_skip (ex_ptsl (b:=BO) (i:=0) rfl rfl (rO.cell (k:=0) rfl) (rO.frz 0)) ?_;have R1:=own_set hown5 (own_ne_bk hown5 rO (by decide)) 0 (.slice (some ⟨g5,0,none⟩) (j+1) cap5);rw [←hnx] at R1;have R2:=rO.set 0 (.slice (some ⟨g5,0,none⟩) (j+1) cap5);have R3:=hbl6.setCell (p:=⟨BO,0,none⟩) (Nat.le_refl BO) (.slice (some ⟨g5,0,none⟩) (j+1) cap5);clear hown4 hown5 hbl4 hbl5 hbl6 rO hgr b6 hcell nO hs4;simp only [Act.put,List.setIfInBounds_toArray];go_wp2;go_roundw
          case rel=>
            first
              |exact ⟨j+1,_,by omega,by go_num,R1,R2,R3⟩
              |((repeat apply Exists.intro);exact⟨⟨j+1,_,by omega,by go_num,R1,R2,R3⟩,rfl⟩)
          case measure=>simp [intOf];omega
        · obtain rfl:n=j:=by omega
          rw [hCn.out] at hown;replace hown:=hown.mono (base':=w.heap.size) (by omega);replace rA:=rA.below hbl hlt0;replace hb:=hB;clear hbl hB hst hCn;go_wp2_with fail;refine(bsG _).mono ?_;rintro e w4 ⟨rfl,b4⟩;replace hown:=below_own3 hown b4;replace rA:=rA.keep b4;replace rO:=rO.keep b4;replace hb:=hb.tr b4;clear b4;go_wp2_with fail;refine(TP _).mono ?_;rintro e w5 ⟨rfl,b5⟩;have hal:Bl w5 ((w5.alloc (Obj.cells #[int u64 (px pu),int u64 (py pu),.bool (pb pu)] 34)).alloc (Obj.cells #[int u64 0,int u64 0] 28)):=((Below.refl _ w5).alloc (Nat.le_refl _) _).alloc (by simp) _;have rP:Bk ((w5.alloc (Obj.cells #[int u64 (px pu),int u64 (py pu),.bool (pb pu)] 34)).alloc (Obj.cells #[int u64 0,int u64 0] 28)) 34 w5.heap.size #[int u64 (px pu),int u64 (py pu),.bool (pb pu)]:=(Bk.new _ _ _).alloc _;have rF:P2 ((w5.alloc (Obj.cells #[int u64 (px pu),int u64 (py pu),.bool (pb pu)] 34)).alloc (Obj.cells #[int u64 0,int u64 0] 28)) 28 (w5.heap.size+1) 0 0:=(P2.new _ _ 0 0).at (by simp);have hO5:BO<w5.heap.size:=Nat.lt_of_lt_of_le rO.lt b5.size;replace hown:=below_own3 (below_own3 hown b5) hal;replace rA:=(rA.keep b5).keep hal;replace rO:=(rO.keep b5).keep hal;replace hb:=hb.tr b5;replace hb:=hb.tr hal;clear TP b5 hal;rcases HP with ⟨m1,m2,hpc,hps⟩|⟨rfl,PV⟩|⟨rfl,PV⟩
          · replace rF:P2 ((w5.alloc (Obj.cells #[int u64 (px pu),int u64 (py pu),.bool (pb pu)] 34)).alloc (Obj.cells #[int u64 0,int u64 0] 28)) 28 (w5.heap.size+1) pc ps:=by rw [hpc,hps];exact rF
            clear rP hpc hps;have o0:=rO.cell (k:=0) rfl;have f0:=rF.c0;have f1:=rF.c1;have ht1:=rO.thereAt 1 2 (by simp);have rO2:Bk (((w5.alloc (Obj.cells #[int u64 (px pu),int u64 (py pu),.bool (pb pu)] 34)).alloc (Obj.cells #[int u64 0,int u64 0] 28)).setCells BO 1 [int u64 pc,int u64 ps]) 30 BO #[v,int u64 pc,int u64 ps]:=rO.part (cs:= [v,int u64 0,int u64 0]) 1 [int u64 pc,int u64 ps] (by simp);have rA2:=rA.setsO (b':=BO) (by omega) 1 [int u64 pc,int u64 ps];have hw2:=own_sets hown (own_ne_bk hown rO (by decide)) 1 [int u64 pc,int u64 ps];have hb2:=below_setCells hb (g:=BO) (by omega) 1 [int u64 pc,int u64 ps];have ht2:=rA2.there 3 (by simp);have p0:=rO2.cell (k:=0) rfl;have p1:=rO2.cell (k:=1) rfl;have p2:=rO2.cell (k:=2) rfl;have mk1:=True.intro;have mk2:=True.intro;go_wp2_with (first|(clear mk1;refine wpList_store_mid rfl 28 _ _ rfl BO 1 #[int u64 pc,int u64 ps] rfl rfl ht1 sizePrf (by kernel_rfl) ?_)|(clear mk2;refine wpList_store_mid rfl 30 _ _ rfl w.heap.size 0 #[v,int u64 pc,int u64 ps] rfl rfl ht2 sizeEvd (onev hown _ _) ?_));refine bodyPost_ret (v:= .tuple #[.agg #[v,int u64 pc,int u64 ps],.int .i64 0]) (bk_res2 (fn:=Tryz.f7) (p:=10) (u:=11) results7 _ rfl (rA2.sets _ rfl) underlying30 rfl sizeEvd) rfl ⟨v,rfl,own_sets hw2 (own_ne_bk hw2 rA2 (by decide)) 0 _,below_setCells hb2 (by omega) _ _⟩
          · go_wp2;generalize (w5.alloc _).alloc _=W6 at*;obtain⟨BF,hBF⟩:∃BF,BF=w5.heap.size+1:=⟨_,rfl⟩;rw [←hBF] at rF;rw [←hBF];generalize w5.heap.size=BP at*;have hPF:BP<BF:=by omega
            clear hBF;have p0:W6.drew.cell? ⟨BP,0,none⟩=_:=rP.cell (k:=0) rfl;have p1:W6.drew.cell? ⟨BP,1,none⟩=_:=rP.cell (k:=1) rfl;have p2:W6.drew.cell? ⟨BP,2,none⟩=_:=rP.cell (k:=2) rfl;have o0:W6.drew.cell? ⟨BO,0,none⟩=_:=rO.cell (k:=0) rfl;have nP:BP∉ [BF]:=fun h=>absurd (List.mem_singleton.1 h) (by omega)
            have nO:BO∉ [BF]:=fun h=>absurd (List.mem_singleton.1 h) (by omega)
            have lf:BF<W6.drew.heap.size:=rF.lt;have hU:∀w',G.Sides [BF] W6.drew w'→Bl w w':=fun w' h=>h.under hb.drew (by intro b h;rw [List.mem_singleton.1 h];omega) hb.size
            have hW:∀w',G.Sides [BF] W6.drew w'→w'.ownsRow w.heap.size 34 3 v n (cells3 (es.map fun t=>nt fN (asT t))):=fun w' h=>own_sides hown.drew h (fun b hb=>by rw [List.mem_singleton.1 hb];exact own_ne_bk hown (show Bk W6 28 BF _ from rF) (by decide))
            have PV':∀w',G.Sides [BF] W6.drew w'→_:=fun w' h=>PV w' v (hU w' h) (hW w' h)
            refine G.pool_list (W:=W6) [BF] [.val (.int .i64 1),
                .val (int u64 tN),
                .val (.agg #[int u64 (px gG),int u64 (py gG),.bool (pb gG)]),
                .val (.agg #[int u64 (px pu),int u64 (py pu),.bool (pb pu)]),
                .val (.slice (some ⟨g,0,none⟩) n cap),
                .val (.pointer (some ⟨BO,0,none⟩)),
                .val (v),
                .val (int u64 r),
                .val (.tuple #[.agg #[int u64 pc,int u64 ps],.bool true]),
                .val (.tuple #[.agg #[int u64 pc,int u64 ps],.bool true]),
                .val (.agg #[int u64 pc,int u64 ps]),
                .val (.bool true),
                .set (BF) (.cells #[int u64 0,int u64 0] 28) (.cells #[int u64 pc,int u64 ps] 28)] [[0],[15],[],[19],[3],[17],[101],[4],[96,97,98,99,100,102,103],[104],[95],[95],[20,105]] (fun f=> [(some 96,.int .i64 1),(some 97,int u64 tN),(some 98,.agg #[int u64 (px gG),int u64 (py gG),.bool (pb gG)]),(some 99,.agg #[int u64 (px pu),int u64 (py pu),.bool (pb pu)]),(some 100,.slice (some ⟨g,0,none⟩) n cap),(some 101,.pointer (some ⟨BO,0,none⟩)),(some 102,v),(some 103,int u64 r),(some 104,.tuple #[.agg #[int u64 pc,int u64 ps],.bool true]),(some 95,.tuple #[.agg #[int u64 pc,int u64 ps],.bool true]),(some 105,.agg #[int u64 pc,int u64 ps]),(some 106,.bool true),(none,undef)]) (by kernel_rfl) (by kernel_rfl) (by kernel_rfl) (by kernel_rfl) (fun _=>by kernel_rfl) (G.last_of [.cells #[int u64 0,int u64 0] 28] (fun F R hm=>by simp at hm) (fun ob ob' k hm=>by simp at hm) (fun b ob ob' hm=>by simp at hm;simp [hm])) (fun b ob ob' hm=>by simp at hm;obtain⟨rfl,rfl,-⟩:=hm;exact rF) ?_ ?_
            · intro ix hix
              match ix,hix with
              |0,_=>exact G.obv [(0,.int .i64 1)] rfl rfl (fun A w ⟨e0,_⟩ hB=>doV_move e0)
              |1,_=>exact G.obv [(15,int u64 tN)] rfl rfl (fun A w ⟨e0,_⟩ hB=>doV_move e0)
              |2,_=>exact G.obv [] rfl rfl (fun A w _ hB=>cl0 cf_spec_Base (bsG w))
              |3,_=>exact G.obv [(19,.pointer (some ⟨BP,0,none⟩))] rfl rfl (fun A w ⟨e0,_⟩ hB=>ld_pt e0 (hB.cell p0 nP) (hB.cell p1 nP) (hB.cell p2 nP))
              |4,_=>exact G.obv [(3,.slice (some ⟨g,0,none⟩) n cap)] rfl rfl (fun A w ⟨e0,_⟩ hB=>doV_move e0)
              |5,_=>exact G.obv [(17,.pointer (some ⟨BO,0,none⟩))] rfl rfl (fun A w ⟨e0,_⟩ hB=>fa_evd0 e0)
              |6,_=>exact G.obv [(101,.pointer (some ⟨BO,0,none⟩))] rfl rfl (fun A w ⟨e0,_⟩ hB=>ld_ptsl e0 (hB.cell o0 nO))
              |7,_=>exact G.obv [(4,int u64 r)] rfl rfl (fun A w ⟨e0,_⟩ hB=>doV_move e0)
              |8,_=>exact G.obv [(96,.int .i64 1),(97,int u64 tN),(98,.agg #[int u64 (px gG),int u64 (py gG),.bool (pb gG)]),(99,.agg #[int u64 (px pu),int u64 (py pu),.bool (pb pu)]),(100,.slice (some ⟨g,0,none⟩) n cap),(102,v),(103,int u64 r)] rfl rfl (fun A w ⟨e0,e1,e2,e3,e4,e5,e6,_⟩ hB=>cl7 cf_spec_Prove e0 e1 e2 e3 e4 e5 e6 (PV' w hB))
              |9,_=>exact G.obv [(104,.tuple #[.agg #[int u64 pc,int u64 ps],.bool true])] rfl rfl (fun A w ⟨e0,_⟩ hB=>doV_move e0)
              |10,_=>exact G.obv [(95,.tuple #[.agg #[int u64 pc,int u64 ps],.bool true])] rfl rfl (fun A w ⟨e0,_⟩ hB=>xt2_0 e0)
              |11,_=>exact G.obv [(95,.tuple #[.agg #[int u64 pc,int u64 ps],.bool true])] rfl rfl (fun A w ⟨e0,_⟩ hB=>xt2_1 e0)
              |12,_=>exact G.ob_set (fun f=> [(20,.pointer (some ⟨BF,0,none⟩)),(105,.agg #[int u64 pc,int u64 ps])]) rfl rfl rfl (by simp) lf (fun j ob1 ob2 h=>by (rcases j with _|_|_|_|_|_|_|_|_|_|_|_|_|j)<;>simp [G.kindOf] at h⊢ <;>omega) (fun _=>by kernel_rfl) (fun f A w ⟨e0,e1,_⟩ hh hr=>pu_prf e0 e1 hr)
              |ix+13,h=>exact absurd h (by simp)
            intro f W7 hS _ _ _ hset;replace rF:P2 W7 28 BF pc ps:=hset 12 _ _ _ rfl (by decide);replace rO:Bk W7 30 BO #[v,int u64 0,int u64 0]:=(hS.block BO rO.lt nO).trans rO;replace rA:Bk W7 30 w.heap.size #[.slice none 0 0,int u64 0,int u64 0]:=(hS.block _ rA.lt (fun h=>absurd (List.mem_singleton.1 h) (by omega))).trans rA;replace hb:=hU W7 hS;replace hown:=hW W7 hS;clear hset hS p0 p1 p2 o0 PV PV' hU hW rP nP nO lf;simp only [puts,List.foldl,Act.put,List.setIfInBounds_toArray,List.set_cons_zero,List.set_cons_succ];have o0:=rO.cell (k:=0) rfl;have f0:=rF.c0;have f1:=rF.c1;have ht1:=rO.thereAt 1 2 (by simp);have rO2:Bk (W7.setCells BO 1 [int u64 pc,int u64 ps]) 30 BO #[v,int u64 pc,int u64 ps]:=rO.part (cs:= [v,int u64 0,int u64 0]) 1 [int u64 pc,int u64 ps] (by simp);have rA2:=rA.setsO (b':=BO) (by omega) 1 [int u64 pc,int u64 ps];have hw2:=own_sets hown (own_ne_bk hown rO (by decide)) 1 [int u64 pc,int u64 ps];have hb2:=below_setCells hb (g:=BO) (by omega) 1 [int u64 pc,int u64 ps];have ht2:=rA2.there 3 (by simp);have p0:=rO2.cell (k:=0) rfl;have p1:=rO2.cell (k:=1) rfl;have p2:=rO2.cell (k:=2) rfl;have mk1:=True.intro;have mk2:=True.intro;go_wp2_with (first|(clear mk1;refine wpList_store_mid rfl 28 _ _ rfl BO 1 #[int u64 pc,int u64 ps] rfl rfl ht1 sizePrf (by kernel_rfl) ?_)|(clear mk2;refine wpList_store_mid rfl 30 _ _ rfl w.heap.size 0 #[v,int u64 pc,int u64 ps] rfl rfl ht2 sizeEvd (onev hown _ _) ?_));refine bodyPost_ret (v:= .tuple #[.agg #[v,int u64 pc,int u64 ps],.int .i64 0]) (bk_res2 (fn:=Tryz.f7) (p:=10) (u:=11) results7 _ rfl (rA2.sets _ rfl) underlying30 rfl sizeEvd) rfl ⟨v,rfl,own_sets hw2 (own_ne_bk hw2 rA2 (by decide)) 0 _,below_setCells hb2 (by omega) _ _⟩
          · go_wp2;generalize (w5.alloc _).alloc _=W6 at*;obtain⟨BF,hBF⟩:∃BF,BF=w5.heap.size+1:=⟨_,rfl⟩;rw [←hBF] at rF;rw [←hBF];generalize w5.heap.size=BP at*;have hPF:BP<BF:=by omega
            clear hBF;have p0:W6.drew.cell? ⟨BP,0,none⟩=_:=rP.cell (k:=0) rfl;have p1:W6.drew.cell? ⟨BP,1,none⟩=_:=rP.cell (k:=1) rfl;have p2:W6.drew.cell? ⟨BP,2,none⟩=_:=rP.cell (k:=2) rfl;have o0:W6.drew.cell? ⟨BO,0,none⟩=_:=rO.cell (k:=0) rfl;have nP:BP∉ [BF]:=fun h=>absurd (List.mem_singleton.1 h) (by omega)
            have nO:BO∉ [BF]:=fun h=>absurd (List.mem_singleton.1 h) (by omega)
            have lf:BF<W6.drew.heap.size:=rF.lt;have hU:∀w',G.Sides [BF] W6.drew w'→Bl w w':=fun w' h=>h.under hb.drew (by intro b h;rw [List.mem_singleton.1 h];omega) hb.size
            have hW:∀w',G.Sides [BF] W6.drew w'→w'.ownsRow w.heap.size 34 3 v n (cells3 (es.map fun t=>nt fN (asT t))):=fun w' h=>own_sides hown.drew h (fun b hb=>by rw [List.mem_singleton.1 hb];exact own_ne_bk hown (show Bk W6 28 BF _ from rF) (by decide))
            have PV':∀w',G.Sides [BF] W6.drew w'→_:=fun w' h=>PV w' v (hU w' h) (hW w' h)
            refine G.pool_list (W:=W6) [BF] [.val (.int .i64 2),
                .val (int u64 tN),
                .val (.agg #[int u64 (px gG),int u64 (py gG),.bool (pb gG)]),
                .val (.agg #[int u64 (px pu),int u64 (py pu),.bool (pb pu)]),
                .val (.pointer (some ⟨BO,0,none⟩)),
                .val (v),
                .val (.slice (some ⟨g,0,none⟩) n cap),
                .val (int u64 r),
                .val (.tuple #[.agg #[int u64 pc,int u64 ps],.bool true]),
                .val (.tuple #[.agg #[int u64 pc,int u64 ps],.bool true]),
                .val (.agg #[int u64 pc,int u64 ps]),
                .val (.bool true),
                .set (BF) (.cells #[int u64 0,int u64 0] 28) (.cells #[int u64 pc,int u64 ps] 28)] [[0],[15],[],[19],[17],[114],[3],[4],[110,111,112,113,115,116,117],[118],[109],[109],[20,119]] (fun f=> [(some 110,.int .i64 2),(some 111,int u64 tN),(some 112,.agg #[int u64 (px gG),int u64 (py gG),.bool (pb gG)]),(some 113,.agg #[int u64 (px pu),int u64 (py pu),.bool (pb pu)]),(some 114,.pointer (some ⟨BO,0,none⟩)),(some 115,v),(some 116,.slice (some ⟨g,0,none⟩) n cap),(some 117,int u64 r),(some 118,.tuple #[.agg #[int u64 pc,int u64 ps],.bool true]),(some 109,.tuple #[.agg #[int u64 pc,int u64 ps],.bool true]),(some 119,.agg #[int u64 pc,int u64 ps]),(some 120,.bool true),(none,undef)]) (by kernel_rfl) (by kernel_rfl) (by kernel_rfl) (by kernel_rfl) (fun _=>by kernel_rfl) (G.last_of [.cells #[int u64 0,int u64 0] 28] (fun F R hm=>by simp at hm) (fun ob ob' k hm=>by simp at hm) (fun b ob ob' hm=>by simp at hm;simp [hm])) (fun b ob ob' hm=>by simp at hm;obtain⟨rfl,rfl,-⟩:=hm;exact rF) ?_ ?_
            · intro ix hix
              match ix,hix with
              |0,_=>exact G.obv [(0,.int .i64 2)] rfl rfl (fun A w ⟨e0,_⟩ hB=>doV_move e0)
              |1,_=>exact G.obv [(15,int u64 tN)] rfl rfl (fun A w ⟨e0,_⟩ hB=>doV_move e0)
              |2,_=>exact G.obv [] rfl rfl (fun A w _ hB=>cl0 cf_spec_Base (bsG w))
              |3,_=>exact G.obv [(19,.pointer (some ⟨BP,0,none⟩))] rfl rfl (fun A w ⟨e0,_⟩ hB=>ld_pt e0 (hB.cell p0 nP) (hB.cell p1 nP) (hB.cell p2 nP))
              |4,_=>exact G.obv [(17,.pointer (some ⟨BO,0,none⟩))] rfl rfl (fun A w ⟨e0,_⟩ hB=>fa_evd0 e0)
              |5,_=>exact G.obv [(114,.pointer (some ⟨BO,0,none⟩))] rfl rfl (fun A w ⟨e0,_⟩ hB=>ld_ptsl e0 (hB.cell o0 nO))
              |6,_=>exact G.obv [(3,.slice (some ⟨g,0,none⟩) n cap)] rfl rfl (fun A w ⟨e0,_⟩ hB=>doV_move e0)
              |7,_=>exact G.obv [(4,int u64 r)] rfl rfl (fun A w ⟨e0,_⟩ hB=>doV_move e0)
              |8,_=>exact G.obv [(110,.int .i64 2),(111,int u64 tN),(112,.agg #[int u64 (px gG),int u64 (py gG),.bool (pb gG)]),(113,.agg #[int u64 (px pu),int u64 (py pu),.bool (pb pu)]),(115,v),(116,.slice (some ⟨g,0,none⟩) n cap),(117,int u64 r)] rfl rfl (fun A w ⟨e0,e1,e2,e3,e4,e5,e6,_⟩ hB=>cl7 cf_spec_Prove e0 e1 e2 e3 e4 e5 e6 (PV' w hB))
              |9,_=>exact G.obv [(118,.tuple #[.agg #[int u64 pc,int u64 ps],.bool true])] rfl rfl (fun A w ⟨e0,_⟩ hB=>doV_move e0)
              |10,_=>exact G.obv [(109,.tuple #[.agg #[int u64 pc,int u64 ps],.bool true])] rfl rfl (fun A w ⟨e0,_⟩ hB=>xt2_0 e0)
              |11,_=>exact G.obv [(109,.tuple #[.agg #[int u64 pc,int u64 ps],.bool true])] rfl rfl (fun A w ⟨e0,_⟩ hB=>xt2_1 e0)
              |12,_=>exact G.ob_set (fun f=> [(20,.pointer (some ⟨BF,0,none⟩)),(119,.agg #[int u64 pc,int u64 ps])]) rfl rfl rfl (by simp) lf (fun j ob1 ob2 h=>by (rcases j with _|_|_|_|_|_|_|_|_|_|_|_|_|j)<;>simp [G.kindOf] at h⊢ <;>omega) (fun _=>by kernel_rfl) (fun f A w ⟨e0,e1,_⟩ hh hr=>pu_prf e0 e1 hr)
              |ix+13,h=>exact absurd h (by simp)
            intro f W7 hS _ _ _ hset;replace rF:P2 W7 28 BF pc ps:=hset 12 _ _ _ rfl (by decide);replace rO:Bk W7 30 BO #[v,int u64 0,int u64 0]:=(hS.block BO rO.lt nO).trans rO;replace rA:Bk W7 30 w.heap.size #[.slice none 0 0,int u64 0,int u64 0]:=(hS.block _ rA.lt (fun h=>absurd (List.mem_singleton.1 h) (by omega))).trans rA;replace hb:=hU W7 hS;replace hown:=hW W7 hS;clear hset hS p0 p1 p2 o0 PV PV' hU hW rP nP nO lf;simp only [puts,List.foldl,Act.put,List.setIfInBounds_toArray,List.set_cons_zero,List.set_cons_succ];have o0:=rO.cell (k:=0) rfl;have f0:=rF.c0;have f1:=rF.c1;have ht1:=rO.thereAt 1 2 (by simp);have rO2:Bk (W7.setCells BO 1 [int u64 pc,int u64 ps]) 30 BO #[v,int u64 pc,int u64 ps]:=rO.part (cs:= [v,int u64 0,int u64 0]) 1 [int u64 pc,int u64 ps] (by simp);have rA2:=rA.setsO (b':=BO) (by omega) 1 [int u64 pc,int u64 ps];have hw2:=own_sets hown (own_ne_bk hown rO (by decide)) 1 [int u64 pc,int u64 ps];have hb2:=below_setCells hb (g:=BO) (by omega) 1 [int u64 pc,int u64 ps];have ht2:=rA2.there 3 (by simp);have p0:=rO2.cell (k:=0) rfl;have p1:=rO2.cell (k:=1) rfl;have p2:=rO2.cell (k:=2) rfl;have mk1:=True.intro;have mk2:=True.intro;go_wp2_with (first|(clear mk1;refine wpList_store_mid rfl 28 _ _ rfl BO 1 #[int u64 pc,int u64 ps] rfl rfl ht1 sizePrf (by kernel_rfl) ?_)|(clear mk2;refine wpList_store_mid rfl 30 _ _ rfl w.heap.size 0 #[v,int u64 pc,int u64 ps] rfl rfl ht2 sizeEvd (onev hown _ _) ?_));refine bodyPost_ret (v:= .tuple #[.agg #[v,int u64 pc,int u64 ps],.int .i64 0]) (bk_res2 (fn:=Tryz.f7) (p:=10) (u:=11) results7 _ rfl (rA2.sets _ rfl) underlying30 rfl sizeEvd) rfl ⟨v,rfl,own_sets hw2 (own_ne_bk hw2 rA2 (by decide)) 0 _,below_setCells hb2 (by omega) _ _⟩
end
end
end Go.Proofs.YtmjniccfjffclaaGreatDoor
