import Derived.Test.YtjmhmajfkdglnabGreatDoorMrg26
import Derived.Test.YtjmhmajfkdglnabGreatDoorMrg24
set_option linter.unusedVariables false
set_option maxRecDepth 100000
set_option maxHeartbeats 16000000
namespace Go.Proofs.YtjmhmajfkdglnabGreatDoor
open Go.Proofs.Tryz Go.RowKit
open Go.Value (int)
open Go.IntKind (u64)
theorem catA_le (t:ByteArray):∀(l r:List ByteArray),(catA t l).size≤(catA t (l++r)).size:=by
  intro l r;unfold catA;rw [List.foldl_append];generalize List.foldl (· ++ ·) t l=u
  induction r generalizing u with
  |nil=>exact Nat.le_refl _
  | cons a r ih=>
    rw [List.foldl_cons];refine Nat.le_trans ?_ (ih (u++a));rw [ByteArray.size_append];omega
theorem with_blk (t:ByteArray)(L:List (Value×ByteArray))(g n:Nat)(T:TypeId)(cs:Array Value)(w:World)(hr:w.heap[g]? =some (.cells cs T))(hcs:cs.toList=L.map (·.1))(hl:L.length=n)(hn:n≤100)(hW:∀vs∈L,Writ vs.1 vs.2)
    (hz:(catA t (L.map (·.2))).size≤300000):
    Cr 109 #[.string t,.slice (some ⟨g,0,none⟩) n n] w (.string (catA t (L.map (·.2)))):=by
  refine withI_any t g n L w hl hn (Array.getElem?_eq_some_iff.1 hr).1 (fun i v s hi=>⟨?_,hW _ (List.mem_of_getElem? hi)⟩) (fun i hi=> ?_)
  · rw [cell_of_row _ _ _ _ _ _ hr,←Array.getElem?_toList,hcs,List.getElem?_map,hi];rfl
  · refine Nat.le_trans ?_ hz;have:=catA_le t ((L.take i).map (·.2)) ((L.drop i).map (·.2));rwa [←List.map_append,List.take_append_drop] at this
theorem hash_blk (s:ByteArray)(g:Nat)(T:TypeId)(w:World)(hT:TabK w)(hr:w.heap[g]? =some (.cells #[.string s] T))(hs:s.size≤1000000):
    Cr 110 #[.slice (some ⟨g,0,none⟩) 1 1] w (.string (strOfNums (shaF (byt s)))):=by
  have:=hashOfI_any g 1 1 [s] w hT (by simp [sizeB];omega) rfl (by omega) (by omega) (fun i hi=>by
    obtain rfl:i=0:=by omega
    rw [cell_of_row _ _ _ _ _ _ hr];rfl)
  rwa [show catB [s]=byt s by simp [catB]] at this
theorem does_append_ow {w:World}{o:Oper}{a:Act}(s x:Operand)(t:TypeId)(ho:o.op= .call {callee:= .builtin .append,args:=#[s,x],argTypes:=#[t,t]})
    (base:Nat)(e:TypeId)(i:TypeInfo)(z:Value)(size bytes:Nat)(ht:prog.underlying t=some (.slice e))(hi:prog.info? e=some i)(hz:i.zero=some z)
    (hsize:i.size=size)(hby:i.bytes=bytes)(hzs:z.cells.size=size)(hsz:0<size)
    (v:Value)(n:Nat)(xs:List Value)(hs:a.eval s=v)(hown:w.ownsRow base e size v n xs)
    (ad:Addr)(m c:Nat)(news:List Value)(hx:a.eval x= .slice (some ad) m c)(hl:news.length=m*size)(hnews:∀j u,news[j]? =some u→w.cell? (ad.add j)=some u)(h1:∀u∈news,u.oneCell'=true)
    (hm:0<m)(h63:n+m≤maxLen)(hbytes:(n+m)*bytes≤140737488355328)(hbase:base≤w.heap.size):
    Does prog o a w fun v' w'=>∃g cap,v'= .slice (some ⟨g,0,none⟩) (n+m) cap∧w'.ownsRow base e size (.slice (some ⟨g,0,none⟩) (n+m) cap) (n+m) (xs++news)∧w.grownBy w' v.ownBlock:=by
  intro Q K hK;obtain⟨g,cap,w',hr,h2,h3,-,h5⟩:=run_append_lies (P:=prog) w t o.type base e i z size bytes ht hi hz hsize hby hzs hsz v n xs hown ad m c news hl hnews h1 hm h63 hbytes hbase w.heap.size rfl;unfold Oper.wp execOp;simp only [ho,resolve,invoke,builtin,Sem.run_bind,Sem.run_pure,Result.andThen_ok,List.map_toArray,List.map_cons,List.map_nil,hs,hx,hr];exact hK _ _ ⟨g,cap,rfl,h2,h3⟩
theorem own_ne {W:World}{base:Nat}{e T:TypeId}{size:Nat}{v:Value}{n:Nat}{xs:List Value}{b:Nat}{cs:Array Value}(hown:W.ownsRow base e size v n xs)(h:W.heap[b]? =some (.cells cs T))(hne:T≠e):v.ownBlock≠some b:=by
  rcases hown.2 with ⟨rfl,_⟩|⟨g,cap,cur,rfl,hbg,hg,-⟩
  · intro h';cases h'
  · intro h';have h2:g=b:=by simpa [Value.ownBlock] using h'
    subst h2;rw [h] at hg;cases hg;exact hne rfl
theorem eml (s:ByteArray):(⟨#[]⟩:ByteArray)++s=s:=ByteArray.empty_append
theorem below_own3 {w w':World}{B:Nat}{e:TypeId}{s:Nat}{v:Value}{n:Nat}{xs:List Value}(h:w.ownsRow B e s v n xs)(hb:Bl w w'):w'.ownsRow B e s v n xs:=by
  refine⟨h.1,?_⟩;rcases h.2 with h2|⟨g,cap,cur,hv,hbg,hg,hr⟩
  · exact .inl h2
  · refine .inr ⟨g,cap,cur,hv,hbg,?_,hr⟩;rw [hb.block g (Array.getElem?_eq_some_iff.1 hg).1];exact hg
section
variable {A:Act}{w:World}{dst:Option Tmp}{ty:TypeId}{ps:String}{af:Array Edge}{gd:Option (Nat×Bool)}
theorem cg0 {F:FuncId}{at_:Array TypeId}{Fv:Nat→Value}{R:Nat→World→Prop}(hcf:∀(args:Array Value) (w:World),(callFunc F args).run prog w= .ok (.enter F args) w)
    (hc:Calls prog F #[] w fun e w'=>∃x,e= .returned (Fv x)∧R x w'∧Bl w w'):
    Does prog (Opr dst (.call {callee:= .value (.func F),args:=#[],argTypes:=at_}) ty ps af gd) A w fun v' w'=>∃x,v'=Fv x∧R x w'∧Bl w w':=by
  have hF:A.eval (.func F)= .func (.func F) #[] #[]:=rfl;have h:(execOp A.eval (Opr dst (.call {callee:= .value (.func F),args:=#[],argTypes:=at_}) ty ps af gd)).run prog w= .ok (.enter F #[]) w:=by generalize A.eval=ev at*;simp [execOp,hF,hcf,go_sem]
  exact does_call h (hc.mono fun _ _ ⟨x,h,h'⟩=>⟨Fv x,h,x,rfl,h'⟩)
theorem cg1 {F:FuncId}{at_:Array TypeId}{Fv:Nat→Value}{R:Nat→World→Prop}{x0:Operand}{u0:Value}(hcf:∀(args:Array Value) (w:World),(callFunc F args).run prog w= .ok (.enter F args) w)(h0:A.eval x0=u0)
    (hc:Calls prog F #[u0] w fun e w'=>∃x,e= .returned (Fv x)∧R x w'∧Bl w w'):
    Does prog (Opr dst (.call {callee:= .value (.func F),args:=#[x0],argTypes:=at_}) ty ps af gd) A w fun v' w'=>∃x,v'=Fv x∧R x w'∧Bl w w':=by
  have hF:A.eval (.func F)= .func (.func F) #[] #[]:=rfl;have h:(execOp A.eval (Opr dst (.call {callee:= .value (.func F),args:=#[x0],argTypes:=at_}) ty ps af gd)).run prog w= .ok (.enter F #[u0]) w:=by generalize A.eval=ev at*;simp [execOp,hF,hcf,h0,go_sem]
  exact does_call h (hc.mono fun _ _ ⟨x,h,h'⟩=>⟨Fv x,h,x,rfl,h'⟩)
end
def slG (n x:Nat):Value:= .slice (some ⟨x/18446744073709551616,0,none⟩) n (x%18446744073709551616)
theorem slG_of (n g cap:Nat)(h:cap<18446744073709551616):slG n (g*18446744073709551616+cap)= .slice (some ⟨g,0,none⟩) n cap:=by
  unfold slG;rw [show (g*18446744073709551616+cap)/18446744073709551616=g by omega,show (g*18446744073709551616+cap)%18446744073709551616=cap by omega]
theorem own_cap {W:World}{base:Nat}{e:TypeId}{size g n cap:Nat}{xs:List Value}(h:W.ownsRow base e size (.slice (some ⟨g,0,none⟩) n cap) n xs):cap<18446744073709551616:=by
  rcases h.2 with ⟨h0,_⟩|⟨g',cap',cur,hv,-,-,-,hm,-⟩
  · cases h0
  · have:cap=cap':=by injection hv
    subst this;unfold maxLen at hm;omega
theorem own_turned {w w':World}{B:Nat}{e:TypeId}{s:Nat}{v:Value}{n:Nat}{xs:List Value}{b:Nat}{ob:Obj}(h:w.ownsRow B e s v n xs)(hT:Turned b ob w w')(hne:v.ownBlock≠some b):w'.ownsRow B e s v n xs:=by
  refine⟨h.1,?_⟩;rcases h.2 with h2|⟨g,cap,cur,hv,hbg,hg,hr⟩
  · exact .inl h2
  · refine .inr ⟨g,cap,cur,hv,hbg,?_,hr⟩;rw [hT.other g (fun e=>hne (by rw [hv,←e];rfl))];exact hg
theorem own_lasts (B:Nat)(e:TypeId)(s n:Nat)(xs:List Value)(obs:List Obj)(hne:∀ob∈obs,∃cs T,ob= .cells cs T∧T≠e):G.Lasts (fun x w=>w.ownsRow B e s (slG n x) n xs) obs:=
  ⟨fun x w w' h hb=>below_own3 h hb,fun x w w' b ob ob' h hm hw hT=>by
    obtain⟨cs,T,rfl,hT'⟩:=hne ob hm
    exact own_turned h hT (own_ne h hw hT')⟩
section
variable {A:Act}{w:World}{dst:Option Tmp}{ty:TypeId}{ps:String}{af:Array Edge}{gd:Option (Nat×Bool)}{x y:Operand}{b i:Nat}
theorem pu_pt {z0:Int}{z1:Int}{z2:Bool}(hx:A.eval x= .pointer (some ⟨b,0,none⟩))(hy:A.eval y= .agg #[int u64 z0,int u64 z1,.bool z2])(hr:w.heap[b]? =some (.cells #[int u64 0,int u64 0,.bool false] 25)):
    Does prog (Opr dst (.store 25 x y) ty ps af gd) A w fun _ w'=>Turned b (.cells #[int u64 z0,int u64 z1,.bool z2] 25) w w':=by
  have c0:w.cell? ⟨b,0,none⟩=some (int u64 0):=by simp [World.cell?,hr]
  have c1:w.cell? ⟨b,1,none⟩=some (int u64 0):=by simp [World.cell?,hr]
  have c2:w.cell? ⟨b,2,none⟩=some (.bool false):=by simp [World.cell?,hr]
  have hf:∀k,w.frozen? ⟨b,k,none⟩=false:=fun k=>by simp [World.frozen?,hr]
  have h:(execOp A.eval (Opr dst (.store 25 x y) ty ps af gd)).run prog w= .ok .skip (((w.setCell ⟨b,0,none⟩ (int u64 z0)).setCell ⟨b,1,none⟩ (int u64 z1)).setCell ⟨b,2,none⟩ (.bool z2)):=by generalize A.eval=ev at*;simp [execOp,hx,hy,hf,c0,c1,c2,go_sem]
  refine does_skip h ⟨rfl,rfl,rfl,by simp [World.setCell],by simp [World.setCell,Array.getElem?_modify,hr],fun k hk=> ?_⟩;simp [World.setCell,Array.getElem?_modify,Ne.symm hk]
end
theorem fldN5 (z:Int)(w:World):(Instr.field 97 (.agg #[int u64 z]) 1).run prog w= .ok (int u64 z) w:=by kernel_rfl
section
variable {A:Act}{w:World}{dst:Option Tmp}{ty:TypeId}{ps:String}{af:Array Edge}{gd:Option (Nat×Bool)}{x y:Operand}{b i:Nat}
theorem fa_nN1 (hx:A.eval x= .pointer (some ⟨b,i,none⟩)):
    Does prog (Opr dst (.fieldAddr 97 x 1) ty ps af gd) A w fun v' w'=>v'= .pointer (some ⟨b,i,none⟩)∧Bl w w':=dv (by generalize A.eval=ev at*;simp [execOp,hx,go_sem])
theorem fl_nN1 {z:Int}(hx:A.eval x= .agg #[int u64 z]):
    Does prog (Opr dst (.field 97 x 1) ty ps af gd) A w fun v' w'=>v'=int u64 z∧Bl w w':=dv (by generalize A.eval=ev at*;simp [execOp,hx,fldN5,go_sem])
theorem eq_nN {a b:Int}(hx:A.eval x= .agg #[int u64 a])(hy:A.eval y= .agg #[int u64 b]):
    Does prog (Opr dst (.binOp .eql 97 x y 97) ty ps af gd) A w fun v' w'=>v'= .bool (a==b)∧Bl w w':=by
  have h:(execOp A.eval (Opr dst (.binOp .eql 97 x y 97) ty ps af gd)).run prog w= .ok (.value (.bool (a==b))) w:=by
    generalize A.eval=ev at*;by_cases e:a=b
    · subst e;simp [execOp,hx,hy,go_sem]
    · have e':(a==b)=false:=by simpa using e
      rw [e'];simp [execOp,hx,hy,e,go_sem]
  exact does_value h ⟨rfl,Below.refl _ _⟩
theorem fa_cpt0 (hx:A.eval x= .pointer (some ⟨b,i,none⟩)):
    Does prog (Opr dst (.fieldAddr 86 x 0) ty ps af gd) A w fun v' w'=>v'= .pointer (some ⟨b,i,none⟩)∧Bl w w':=dv (by generalize A.eval=ev at*;simp [execOp,hx,go_sem])
end
end Go.Proofs.YtjmhmajfkdglnabGreatDoor
