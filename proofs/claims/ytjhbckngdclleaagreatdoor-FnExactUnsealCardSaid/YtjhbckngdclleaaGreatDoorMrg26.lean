import Derived.Test.YtjhbckngdclleaaGreatDoorMrg25
set_option linter.unusedVariables false
set_option maxRecDepth 100000
set_option maxHeartbeats 16000000
namespace Go.Proofs.YtjhbckngdclleaaGreatDoor
open Go.Proofs.Tryz Go.RowKit
open Go.Value (int)
open Go.IntKind (u64)
section
open M
theorem elS_any (t:Tri)(w:World):
    Cr 41 #[.agg #[int u64 (t.1:Int),int u64 (t.2.1:Int),.bool t.2.2]] w (.bool (elT t)):=by
  have O:=onS_tri t;unfold elT;obtain⟨x,y,c⟩:=t;simp only at O⊢;have hr:=K3.new w 27 (x:Int) (y:Int) c;have hb:=balc w (Obj.cells #[int u64 (x:Int),int u64 (y:Int),.bool c] 27);generalize onT (x,y,c)=o at*;have c0:=hr.c0;have c1:=hr.c1;have c2:=hr.c2;go_enter func41,ntmps41;go_wp2_with fail;refine(O _).mono ?_;rintro e w1 ⟨rfl,b1⟩;replace hr:=hr.keep b1;replace hb:=hb.tr b1;clear O b1 c0 c1 c2;have c2:=hr.c2;cases o
  · go_wp2;go_ret;exact⟨rfl,hb⟩
  · go_wp2;go_ret;exact⟨rfl,hb⟩
end
theorem cf_spec_l5Sized (args:Array Value)(w:World):(callFunc 46 args).run prog w= .ok (.enter 46 args) w:=by kernel_rfl
theorem cf_spec_l5Tag (args:Array Value)(w:World):(callFunc 55 args).run prog w= .ok (.enter 55 args) w:=by kernel_rfl
theorem cf_spec_HashToScalar (args:Array Value)(w:World):(callFunc 54 args).run prog w= .ok (.enter 54 args) w:=by kernel_rfl
section
variable {A:Act}{w:World}{dst:Option Tmp}{ty:TypeId}{ps:String}{af:Array Edge}{gd:Option (Nat×Bool)}{x y:Operand}{b i:Nat}
theorem dkx0 {u v:Value}(hx:A.eval x= .tuple #[u,v]):Does prog (Opr dst (.extract x 0) ty ps af gd) A w fun v' w'=>v'=u∧Bl w w':=dv (by generalize A.eval=ev at*;simp [execOp,hx,go_sem])
theorem dkx1 {u v:Value}(hx:A.eval x= .tuple #[u,v]):Does prog (Opr dst (.extract x 1) ty ps af gd) A w fun v' w'=>v'=v∧Bl w w':=dv (by generalize A.eval=ev at*;simp [execOp,hx,go_sem])
theorem dkc8 {n m:Int}(hx:A.eval x= .int .i64 n)(hm:IntKind.u8.wrap n=m):Does prog (Opr dst (.convert 3 5 x) ty ps af gd) A w fun v' w'=>v'= .int .u8 m∧Bl w w':=
  does_value (execS_c8 hx hm) ⟨rfl,Below.refl _ _⟩
theorem dksl {a:Int}(hx:A.eval x= .int .u8 a):Does prog (Opr dst (.buildSlice 35 1 #[(0,x)]) ty ps af gd) A w fun v w'=>v= .slice (some ⟨w.heap.size,0,none⟩) 1 1∧w'=w.alloc (.cells #[.int .u8 a] 5):=
  does_value (execS_slc1 hx) ⟨rfl,rfl⟩
theorem dkcv {a : Int} (hx : A.eval x = .slice (some ⟨b, 0, none⟩) 1 1)(hr:w.heap[b]? =some (.cells #[.int .u8 a] 5)):Does prog (Opr dst (.convert 35 9 x) ty ps af gd) A w fun v' w'=>v'= .string (strOfNums [a])∧Bl w w':=
  does_value (execS_conv (n := 1) (xs := [a]) hx rfl (fun i hi => by obtain rfl:i=0:=by omega
                                                                     simp [World.cell?,hr,lk])) ⟨rfl,Below.refl _ _⟩
end
theorem dkS_bad (mode:Int)(seed info:ByteArray)(w:World)(h:dkB mode seed info=false):
    Cr 16 #[.int .i64 mode,.string seed,.string info] w (.tuple #[int u64 0,.int .i64 1]):=by
  unfold dkB at h;rw [decide_eq_false_iff_not] at h;by_cases hm:0≤mode∧mode≤2
  · have M:=fun w=>modS_yes mode w hm.1 hm.2
    by_cases hs:(seed.size:Int)=32
    · have hi:(60000:Int)<(info.size:Int):=by omega
      have hs':((seed.size:Int) !=32)=false:=by simpa using hs
      clear h hm hs;go_enter func16,ntmps16;go_wp2_with fail;refine(M _).mono ?_;rintro e w1 ⟨rfl,rfl⟩;go_wp2;go_ret2;exact⟨rfl,Below.refl _ _⟩
    · have hs':((seed.size:Int) !=32)=true:=by simpa using hs
      clear h hm hs;go_enter func16,ntmps16;go_wp2_with fail;refine(M _).mono ?_;rintro e w1 ⟨rfl,rfl⟩;go_wp2;go_ret2;exact⟨rfl,Below.refl _ _⟩
  · have M:=fun w=>modS_no mode w hm
    clear h hm;go_enter func16,ntmps16;go_wp2_with fail;refine(M _).mono ?_;rintro e w1 ⟨rfl,rfl⟩;go_wp2;go_ret2;exact⟨rfl,Below.refl _ _⟩
theorem dkS_yes (mode:Int)(seed info:ByteArray)(w:World)(m1:0≤mode)(m2:mode≤2)(hs:seed.size=32)(hi:info.size≤60000):
    Cr 16 #[.int .i64 mode,.string seed,.string info] w (.tuple #[int u64 ((dkR (dkN mode.toNat seed info) 0 256).1:Nat),.int .i64 (dkR (dkN mode.toNat seed info) 0 256).2]):=by
  obtain⟨hm,hm'⟩:=dk_mod m1 m2;have M:=fun w=>modS_yes mode w m1 m2
  have S:=fun w=>sizS_any info w (by omega)
  have TG:=fun w=>tagS_any dkW mode.toNat w hm (by decide)
  rw [hm'] at TG;have hzt:=dkT_size _ hm;have H:∀(j:Nat) (w:World),Cr 54 #[.string (dkM seed info j),.string (tagB dkW mode.toNat)] w (.tuple #[int u64 (dkN mode.toNat seed info j:Nat),.bool true]):=fun j w=>h2sS_yes (dkM seed info j) (tagB dkW mode.toNat) w ⟨by omega,by omega,by rw [dkM_size];omega⟩
  have hzs:=sizB_sz info;obtain⟨f,hf⟩:∃f,f=dkN mode.toNat seed info:=⟨_,rfl⟩;obtain⟨R,hR⟩:∃R,Hid (R=dkR f 0 256):=⟨_,rfl⟩;rw [←hf] at H⊢;rw [←hR.out];unfold dkM dkW at*;generalize tagB _ mode.toNat=tg at*;generalize sizB info=Z at*;have q1:seed.size+Z.size≤9223372036854775807:=by omega
  have q2:∀j:Nat,(seed++Z).size+(strOfNums [(j:Int)]).size≤9223372036854775807:=fun j=>by
    rw [ByteArray.size_append,strOfNums_size];simp only [List.length_cons,List.length_nil];omega
  have hs':((seed.size:Int) !=32)=false:=by simp [hs]
  have hi': ¬ (60000:Int)<(info.size:Int):=by omega
  have q2':Hid (∀j:Nat,(seed++Z).size+(strOfNums [(j:Int)]).size≤9223372036854775807):=q2;have H':Hid (∀(j:Nat) (w:World),Cr 54 #[.string (seed++Z++strOfNums [(j:Int)]),.string tg] w (.tuple #[int u64 (f j:Nat),.bool true])):=H;clear hf hzt hzs hm hm' m1 m2 hs hi q2 H;go_enter func16,ntmps16;go_wp2_with fail;refine(M _).mono ?_;rintro e w1 ⟨rfl,rfl⟩;clear M;go_wp2
  go_loopw [8] (fun iv wr=>∃j:Nat,j≤256∧iv= .int .i64 (j:Int)∧Hid (R=dkR f j (256-j))∧Bl w wr) (fun i _=>256-(intOf i).toNat)
  case atStart=>exact ⟨0,by omega,rfl,hR,Below.refl _ _⟩
  case round=>
    obtain⟨j,hj,rfl,hRj,hbl⟩:=hrel;clear hR;by_cases hlt:j<256
    · have hli:(j:Int)<256:=by omega
      have e8:IntKind.u8.wrap (j:Int)=(j:Int):=u8_in _ (by omega) (by omega);have HJ:=H'.out j;have qj:=q2'.out j;go_wp2
      refine G.pool_list (W:=wr) [] [.val (.string seed),
          .val (.string info),
          .val (.string Z),
          .val (.string (seed++Z)),
          .val (.int .i64 (j:Int)),
          .val (.int .u8 (j:Int)),
          .new (.cells #[.int .u8 (j:Int)] 5) (.cells #[.int .u8 (j:Int)] 5) 1001,
          .val (.string (strOfNums [(j:Int)])),
          .val (.string (seed++Z++strOfNums [(j:Int)])),
          .val (.int .i64 mode),
          .val (.string tg),
          .val (.tuple #[int u64 ((f j:Nat):Int),.bool true]),
          .val (.tuple #[int u64 ((f j:Nat):Int),.bool true]),
          .val (int u64 ((f j:Nat):Int)),
          .val (.bool true),
          .val (int u64 ((f j:Nat):Int)),
          .val (.bool true)] [[1],[2],[30],[29,31],[8],[33],[34],[35],[32,36],[0],[38],[37,39],[40],[28],[28],[41],[42]] (fun fr=> [(some 29,.string seed),(some 30,.string info),(some 31,.string Z),(some 32,.string (seed++Z)),(some 33,.int .i64 (j:Int)),(some 34,.int .u8 (j:Int)),(some 35,.slice (some ⟨fr 6,0,none⟩) 1 1),(some 36,.string (strOfNums [(j:Int)])),(some 37,.string (seed++Z++strOfNums [(j:Int)])),(some 38,.int .i64 mode),(some 39,.string tg),(some 40,.tuple #[int u64 ((f j:Nat):Int),.bool true]),(some 28,.tuple #[int u64 ((f j:Nat):Int),.bool true]),(some 41,int u64 ((f j:Nat):Int)),(some 42,.bool true),(some 9,int u64 ((f j:Nat):Int)),(some 10,.bool true)]) (by kernel_rfl) (by kernel_rfl) (by kernel_rfl) (by kernel_rfl) (fun _=>by kernel_rfl) (G.last_of [.cells #[.int .u8 (j:Int)] 5] (fun F R hm=>by simp at hm) (fun ob ob' k hm=>by simp at hm;simp [hm]) (fun b ob ob' hm=>by simp at hm)) (fun b ob ob' hm=>by simp at hm) ?_ ?_
      · intro ix hix
        match ix,hix with
        |0,_=>exact G.obv [(1,.string seed)] rfl rfl (fun A w ⟨e0,_⟩ hB=>doS_move e0)
        |1,_=>exact G.obv [(2,.string info)] rfl rfl (fun A w ⟨e0,_⟩ hB=>doS_move e0)
        |2,_=>exact G.obv [(30,.string info)] rfl rfl (fun A w ⟨e0,_⟩ hB=>doS_call1 cf_spec_l5Sized e0 (S w))
        |3,_=>exact G.obv [(29,.string seed),(31,.string Z)] rfl rfl (fun A w ⟨e0,e1,_⟩ hB=>doS_cat e0 e1 q1)
        |4,_=>exact G.obv [(8,.int .i64 (j:Int))] rfl rfl (fun A w ⟨e0,_⟩ hB=>doS_move e0)
        |5,_=>exact G.obv [(33,.int .i64 (j:Int))] rfl rfl (fun A w ⟨e0,_⟩ hB=>dkc8 e0 e8)
        |6,_=>exact G.ob_slc 1 [(34,.int .u8 (j:Int))] rfl rfl (fun _=>by kernel_rfl) (fun A w ⟨e0,_⟩=>dksl e0)
        |7,_=>exact G.ob_use 35 6 1001 (.cells #[.int .u8 (j:Int)] 5) (fun fr=> [(35,.slice (some ⟨fr 6,0,none⟩) 1 1)]) rfl rfl (by decide) (by kernel_rfl) rfl (fun _=>by kernel_rfl) (fun fr A w ⟨e0,_⟩ hB hr=>dkcv e0 hr)
        |8,_=>exact G.obv [(32,.string (seed++Z)),(36,.string (strOfNums [(j:Int)]))] rfl rfl (fun A w ⟨e0,e1,_⟩ hB=>doS_cat e0 e1 qj)
        |9,_=>exact G.obv [(0,.int .i64 mode)] rfl rfl (fun A w ⟨e0,_⟩ hB=>doS_move e0)
        |10,_=>exact G.obv [(38,.int .i64 mode)] rfl rfl (fun A w ⟨e0,_⟩ hB=>doS_call2 cf_spec_l5Tag rfl e0 (TG w))
        |11,_=>exact G.obv [(37,.string (seed++Z++strOfNums [(j:Int)])),(39,.string tg)] rfl rfl (fun A w ⟨e0,e1,_⟩ hB=>doS_call2 cf_spec_HashToScalar e0 e1 (HJ w))
        |12,_=>exact G.obv [(40,.tuple #[int u64 ((f j:Nat):Int),.bool true])] rfl rfl (fun A w ⟨e0,_⟩ hB=>doS_move e0)
        |13,_=>exact G.obv [(28,.tuple #[int u64 ((f j:Nat):Int),.bool true])] rfl rfl (fun A w ⟨e0,_⟩ hB=>dkx0 e0)
        |14,_=>exact G.obv [(28,.tuple #[int u64 ((f j:Nat):Int),.bool true])] rfl rfl (fun A w ⟨e0,_⟩ hB=>dkx1 e0)
        |15,_=>exact G.obv [(41,int u64 ((f j:Nat):Int))] rfl rfl (fun A w ⟨e0,_⟩ hB=>doS_assign e0)
        |16,_=>exact G.obv [(42,.bool true)] rfl rfl (fun A w ⟨e0,_⟩ hB=>doS_assign e0)
        |ix+17,h=>exact absurd h (by simp)
      intro fr W3 hS _ _ _ _;have b3:Bl wr W3:=(Below.refl _ wr).drew.trans hS.below;replace hbl:=hbl.tr b3;clear hS b3 HJ qj;simp only [puts,List.foldl,Act.put,List.setIfInBounds_toArray,List.set_cons_zero,List.set_cons_succ];by_cases hz:f j=0
      · have hz':(((f j:Nat):Int) !=0)=false:=by simp [hz]
        have hRn:Hid (R=dkR f (j+1) (256-(j+1))):=by unfold Hid;rw [hRj.out,dkR_step hlt hz]
        clear hRj hz;go_wp2;go_roundw
        case rel=>
          first
            |exact ⟨j+1,by omega,by go_num,hRn,hbl⟩
            |((repeat apply Exists.intro);exact⟨⟨j+1,by omega,by go_num,hRn,hbl⟩,rfl⟩)
        case measure=>simp [intOf];omega
      · have hz':(((f j:Nat):Int) !=0)=true:=by simp;omega
        have hRn:R=(f j,0):=by rw [hRj.out,dkR_hit hlt hz]
        clear hRj hz;subst hRn;go_wp2;go_ret2;exact⟨rfl,hbl⟩
    · obtain rfl:j=256:=by omega
      have hRn:R=(0,3):=by rw [hRj.out];rfl
      clear hRj;subst hRn;go_wp2;go_ret2;exact⟨rfl,hbl⟩
theorem beTo2 (n:Nat)(h:n≤65535):strOfNums (beTo (n:Int) 2)=numB n:=by
  unfold numB
  have e:beTo (n:Int) 2= [((n/256%256:Nat):Int),((n%256:Nat):Int)]:=by
    simp only [beTo];simp
  rw [e]
theorem wrtZ (s:ByteArray)(w:World)(h:s.size≤65535):
    Cr 272 #[.string s] w (.string (sizB s)):=by
  have L:=fun w=>beI_any (s.size:Int) 2 w (by omega) (by omega) (by omega) (by omega)
  rw [beTo2 _ h] at L;have e1:IntKind.u64.wrap (s.size:Int)=(s.size:Int):=by rw [IntKind.wrap_u64];omega
  have hs:sizB s=numB s.size++s:=rfl;have hz:=numB_size s.size;rw [hs];generalize numB s.size=T at*;clear hs;go_enter func272,ntmps272;go_wp2_with fail;refine(L _).mono ?_;rintro e w1 ⟨rfl,b1⟩;go_wp2;go_ret;exact⟨rfl,b1⟩
theorem wrtP (s:ByteArray)(w:World):
    Cr 276 #[.string s] w (.string s):=by
  go_enter func276,ntmps276;go_wp2;go_ret;exact⟨rfl,Below.refl _ _⟩
def Writ (v:Value)(s:ByteArray):Prop:=∃(T:TypeId) (x:Value) (F:FuncId),v= .iface T x∧(∀w,(method 469 T x "loop.example/s02095/impl.written").run prog w= .ok (F,x) w)∧
  (∀(args:Array Value) (w:World),(callFunc F args).run prog w= .ok (.enter F args) w)∧Cc F #[x] (.string s)
theorem mthZ (s:ByteArray)(w:World):(method 469 156 (.string s) "loop.example/s02095/impl.written").run prog w= .ok (272,.string s) w:=by kernel_rfl
theorem mthP (s:ByteArray)(w:World):(method 469 155 (.string s) "loop.example/s02095/impl.written").run prog w= .ok (276,.string s) w:=by kernel_rfl
theorem ceZ (args:Array Value)(w:World):(callFunc 272 args).run prog w= .ok (.enter 272 args) w:=by kernel_rfl
theorem ceP (args:Array Value)(w:World):(callFunc 276 args).run prog w= .ok (.enter 276 args) w:=by kernel_rfl
theorem writZ (s:ByteArray)(h:s.size≤65535):Writ (.iface 156 (.string s)) (sizB s):=⟨_,_,_,rfl,mthZ s,ceZ,fun w=>wrtZ s w h⟩
theorem writP (s:ByteArray):Writ (.iface 155 (.string s)) s:=⟨_,_,_,rfl,mthP s,ceP,fun w=>wrtP s w⟩
section
open Go
def Row0 (w:World)(base:Nat)(v:Value)(n:Nat)(xs:List Value):Prop:=
  (v= .slice none 0 0∧n=0∧xs= [])∨∃g cap,v= .slice (some ⟨g,0,none⟩) n cap∧Row w base g n cap xs
theorem byteCells_byt (s:ByteArray):byteCells s=(byt s).map (Value.int .u8):=by
  rw [byteCells,byt,List.map_map];rfl
theorem row_grown {w:World}{e:TypeId}{z:Value}{base n m old:Nat}{xs news:List Value}(hzs:z.cells.size=1)(hx:xs.length=n)(hl:news.length=m)(h63:n+m≤maxLen)(hbase:base≤w.heap.size):
    Row (w.drew.alloc (.cells ((xs++news).toArray++Builtin.zeroCells z.cells (grownCap w (n+m) old e-(n+m))) e)) base w.heap.size (n+m) (grownCap w (n+m) old e) (xs++news):=by
  have hge:=grownCap_ge w (n+m) old e;have hcm:grownCap w (n+m) old e≤maxLen:=grownCap_le_maxLen w (n+m) old e h63
  have hsz:((xs++news).toArray++Builtin.zeroCells z.cells (grownCap w (n+m) old e-(n+m))).size=grownCap w (n+m) old e:=by
    simp only [Array.size_append,List.size_toArray,List.length_append,size_zeroCells,hzs];omega
  have hblk:=Row.of_block (w:=w.drew.alloc (.cells ((xs++news).toArray++Builtin.zeroCells z.cells (grownCap w (n+m) old e-(n+m))) e)) (base:=base) (g:=w.heap.size) (n:=n+m) (heap_alloc_new w.drew _) hbase (by rw [hsz];exact hge) (by rw [hsz];exact hcm);rw [hsz] at hblk
  have htk:((xs++news).toArray++Builtin.zeroCells z.cells (grownCap w (n+m) old e-(n+m))).toList.take (n+m)=xs++news:=by
    simp only [Array.toList_append];rw [List.take_append_of_le_length (by simp;omega),List.take_of_length_le (by simp;omega)]
  rwa [htk] at hblk
theorem run_append_str {P:Program}(w:World)(t tx ty:TypeId)(base:Nat)(e:TypeId)(i:TypeInfo)(z:Value)(ht:P.underlying t=some (.slice e))(htx:P.underlying tx=some .string)(hi:P.info? e=some i)(hz:i.zero=some z)
    (hsize:i.size=1)(hby:i.bytes=1)(hzs:z.cells.size=1)(v:Value)(n:Nat)(xs:List Value)(hown:Row0 w base v n xs)(s:ByteArray)(hs0:0<s.size)
    (h63:n+s.size≤140737488355328)(hbase:base≤w.heap.size):
    ∃ g cap w',(Builtin.append_ #[t,tx] ty #[v,.string s]).run P w= .ok (.slice (some ⟨g,0,none⟩) (n+s.size) cap) w'∧
      Row w' base g (n+s.size) cap (xs++(byt s).map (Value.int .u8))∧Below base w w':=by
  have hsrc:Src P i.size tx (.string s) s.size ((byt s).map (Value.int .u8)) w:=by rw [hsize,←byteCells_byt];exact Src.ofString w htx s
  have hl:((byt s).map (Value.int .u8)).length=s.size:=by rw [List.length_map,byt_length]
  have hm:n+s.size≤maxLen:=by unfold maxLen;omega
  rcases hown with ⟨rfl,rfl,rfl⟩|⟨g,cap,rfl,hrow⟩
  · have hr:=run_append_grow_src (P:=P) w t tx ty e i z ht hi hz none 0 0 [] (by rw [hsize];exact run_firstCells_none w.drew 1 0 0 0) (.string s) s.size _ hsrc (by omega) (by omega) (growslice_fits (by omega) (by rw [hby];omega));exact⟨w.heap.size,_,_,hr,row_grown hzs rfl hl hm hbase,(Below.refl _ _).drew.alloc hbase _⟩
  · have hlx:=hrow.len;by_cases hroom:n+s.size≤cap
    · have hr:=run_append_room_src (P:=P) w t tx ty e i ht hi g 0 n cap (.string s) s.size _ hsrc hroom
        (fun j hj=>by rw [hsize];exact(hrow.room _ (by omega)).1) (fun j hj=>by rw [hsize];exact(hrow.room _ (by omega)).2)
      rw [hsize,Nat.zero_add,Nat.mul_one] at hr;refine⟨g,cap,_,hr,⟨hrow.lo,by rw [setCells_size];exact hrow.hi,by rw [List.length_append];omega,hroom,hrow.max,fun j u hu=> ?_,fun j hj=> ?_⟩,below_setCells (Below.refl _ _) hrow.lo _ _⟩
      · by_cases hj:j<xs.length
        · rw [List.getElem?_append_left hj] at hu;rw [World.cell?_setCells_out g _ n w ⟨g,j,none⟩ (fun _ _=> .inl (by show j<n;omega))];exact hrow.cells j u hu
        · rw [List.getElem?_append_right (by omega)] at hu;have hj2:=(List.getElem?_eq_some_iff.1 hu).1;have:=World.cell?_setCells_in g ((byt s).map (Value.int .u8)) n w (fun q hq=>(hrow.room _ (by omega)).1) (j-xs.length) hj2;rw [show n+(j-xs.length)=j by omega] at this;rw [this,←hu,List.getElem?_eq_getElem hj2]
      · exact⟨World.isSome_setCells g _ n w _ (hrow.room j hj).1,by rw [World.frozen?_setCells];exact(hrow.room j hj).2⟩
    · have hr:=run_append_grow_src (P:=P) w t tx ty e i z ht hi hz (some ⟨g,0,none⟩) n cap xs (by
          rw [hsize]
          exact run_firstCells_some w.drew 1 n ⟨g,0,none⟩ n cap xs (by omega) (fun j u hu=>by rw [Addr.add_mid,Nat.zero_add];exact hrow.cells j u hu)) (.string s) s.size _ hsrc (by omega) (by omega) (growslice_fits (by omega) (by rw [hby];omega))
      exact⟨w.heap.size,_,_,hr,row_grown hzs hlx hl hm hbase,(Below.refl _ _).drew.alloc hbase _⟩
theorem wpList_append_str {P:Program}{w:World}{ops:Array Oper}{rest:List Oper}{o:Oper}{a:Act}{Q:Exit→Act→World→Prop}(hgd:o.guard=none)(sl x:Operand)(t tx:TypeId)
    (ho:o.op= .call {callee:= .builtin .append,args:=#[sl,x],argTypes:=#[t,tx]})
    (base:Nat)(e:TypeId)(i:TypeInfo)(z:Value)(ht:P.underlying t=some (.slice e))(htx:P.underlying tx=some .string)(hi:P.info? e=some i)(hz:i.zero=some z)
    (hsize:i.size=1)(hby:i.bytes=1)(hzs:z.cells.size=1)(v:Value)(n:Nat)(xs:List Value)(hs:a.eval sl=v)(hown:Row0 w base v n xs)(s:ByteArray)(hx:a.eval x= .string s)(hs0:0<s.size)
    (h63:n+s.size≤140737488355328)(hbase:base≤w.heap.size)
    (h:∀g cap w',Row w' base g (n+s.size) cap (xs++(byt s).map (Value.int .u8))→Below base w w'→wpList P ops Q rest (a.put o.dst (.slice (some ⟨g,0,none⟩) (n+s.size) cap)) w'):wpList P ops Q (o::rest) a w:=by
  refine wpList_plain hgd fun K hK=> ?_
  obtain⟨g,cap,w',hr,h2,h3⟩:=run_append_str (P:=P) w t tx o.type base e i z ht htx hi hz hsize hby hzs v n xs hown s hs0 h63 hbase;unfold Oper.wp execOp;simp only [ho,resolve,invoke,builtin,Sem.run_bind,Sem.run_pure,Result.andThen_ok,List.map_toArray,List.map_cons,List.map_nil,hs,hx,hr];exact hK _ _ (h g cap w' h2 h3)
end
end Go.Proofs.YtjhbckngdclleaaGreatDoor
