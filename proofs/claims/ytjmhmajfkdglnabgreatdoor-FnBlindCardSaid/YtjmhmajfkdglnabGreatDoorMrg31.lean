import Derived.Test.YtjmhmajfkdglnabGreatDoorMrg30
import Derived.Test.YtjmhmajfkdglnabGreatDoorMrg29
set_option linter.unusedVariables false
set_option maxRecDepth 100000
set_option maxHeartbeats 16000000
namespace Go.Proofs.YtjmhmajfkdglnabGreatDoor
open Go.Proofs.Tryz Go.RowKit
open Go.Value (int)
open Go.IntKind (u64)
section
variable {A:Act}{w:World}{dst:Option Tmp}{ty:TypeId}{ps:String}{af:Array Edge}{gd:Option (Nat×Bool)}{x y:Operand}{b i:Nat}
theorem fa_evn0 (hx:A.eval x= .pointer (some ⟨b,i,none⟩)):
    Does prog (Opr dst (.fieldAddr 141 x 0) ty ps af gd) A w fun v' w'=>v'= .pointer (some ⟨b,i,none⟩)∧Bl w w':=dv (by generalize A.eval=ev at*;simp [execOp,hx,go_sem])
theorem fa_evn1 (hx:A.eval x= .pointer (some ⟨b,i,none⟩)):
    Does prog (Opr dst (.fieldAddr 141 x 1) ty ps af gd) A w fun v' w'=>v'= .pointer (some ⟨b,i+3,none⟩)∧Bl w w':=dv (by generalize A.eval=ev at*;simp [execOp,hx,go_sem])
theorem fa_evn2 (hx:A.eval x= .pointer (some ⟨b,i,none⟩)):
    Does prog (Opr dst (.fieldAddr 141 x 2) ty ps af gd) A w fun v' w'=>v'= .pointer (some ⟨b,i+4,none⟩)∧Bl w w':=dv (by generalize A.eval=ev at*;simp [execOp,hx,go_sem])
theorem bu0_evn:Does prog (Opr dst (.build 141 #[]) ty ps af gd) A w fun v' w'=>v'= .agg #[int u64 0,int u64 0,.bool false,int u64 0,int u64 0]∧Bl w w':=dv (by generalize A.eval=ev at*;simp [execOp,go_sem])
theorem size_evn:(prog.info? 141).map (·.size)=some 5:=by kernel_rfl
theorem ne_ptF (hx:A.eval x= .agg #[int u64 0,int u64 0,.bool true])(hy:A.eval y= .agg #[int u64 0,int u64 0,.bool true]):
    Does prog (Opr dst (.binOp .neq 25 x y 25) ty ps af gd) A w fun v' w'=>v'= .bool false∧Bl w w':=dv (by generalize A.eval=ev at*;simp [execOp,hx,hy,go_sem])
theorem ne_ptT {a c:Int}{d:Bool}(h: ¬ (a=0∧c=0∧d=true))(hx:A.eval x= .agg #[int u64 a,int u64 c,.bool d])(hy:A.eval y= .agg #[int u64 0,int u64 0,.bool true]):
    Does prog (Opr dst (.binOp .neq 25 x y 25) ty ps af gd) A w fun v' w'=>v'= .bool true∧Bl w w':=by
  have h' :(execOp A.eval (Opr dst (.binOp .neq 25 x y 25) ty ps af gd)).run prog w= .ok (.value (.bool true)) w:=by
    generalize A.eval=ev at*;by_cases h1:a=0
    · by_cases h2:c=0
      · have h3:d=false:=by cases d with
          |false=>rfl
          |true=>exact absurd ⟨h1,h2,rfl⟩ h
        subst h1 h2 h3;simp [execOp,hx,hy,go_sem]
      · subst h1;simp [execOp,hx,hy,h2,go_sem]
    · simp [execOp,hx,hy,h1,go_sem]
  exact does_value h' ⟨rfl,Below.refl _ _⟩
end
theorem cf_impl_batch_accepts (args:Array Value)(w:World):(callFunc 51 args).run prog w= .ok (.enter 51 args) w:=by kernel_rfl
theorem cf_impl_number_impl_primeN_inverse (args:Array Value)(w:World):(callFunc 77 args).run prog w= .ok (.enter 77 args) w:=by kernel_rfl
section
variable {A:Act}{w:World}{dst:Option Tmp}{ty:TypeId}{ps:String}{af:Array Edge}{gd:Option (Nat×Bool)}{x y:Operand}{b i:Nat}
theorem ld_evd {v0 v1 v2:Value}(hx:A.eval x= .pointer (some ⟨b,i,none⟩))(h0:w.cell? ⟨b,i,none⟩=some v0)(h1:w.cell? ⟨b,i+1,none⟩=some v1)(h2:w.cell? ⟨b,i+2,none⟩=some v2):
    Does prog (Opr dst (.load 41 x) ty ps af gd) A w fun v' w'=>v'= .agg #[v0,v1,v2]∧Bl w w':=dv (by generalize A.eval=ev at*;simp [execOp,hx,h0,h1,h2,go_sem])
end
section
variable {A:Act}{w:World}{dst:Option Tmp}{ty:TypeId}{ps:String}{af:Array Edge}{gd:Option (Nat×Bool)}{x y:Operand}{b i:Nat}
theorem al_bat:Does prog (Opr dst (.alloc 89) ty ps af gd) A w fun v w'=>v= .pointer (some ⟨w.heap.size,0,none⟩)∧w'=w.alloc (.cells #[.string ⟨#[]⟩,int u64 0,int u64 0,.bool false,.slice none 0 0,.slice none 0 0] 89):=by
  have h:(execOp A.eval (Opr dst (.alloc 89) ty ps af gd)).run prog w= .ok (.value (.pointer (some ⟨w.heap.size,0,none⟩))) (w.alloc (.cells #[.string ⟨#[]⟩,int u64 0,int u64 0,.bool false,.slice none 0 0,.slice none 0 0] 89)):=by simp [execOp,go_sem]
  exact does_value h ⟨rfl,rfl⟩
theorem size_bat:(prog.info? 89).map (·.size)=some 6:=by kernel_rfl
theorem pu_bat {cx:ByteArray}{x1 y1:Int}{c1:Bool}{s1 s2:Option Addr}{n1 k1 n2 k2:Nat}(hx:A.eval x= .pointer (some ⟨b,0,none⟩))(hy:A.eval y= .agg #[.string cx,int u64 x1,int u64 y1,.bool c1,.slice s1 n1 k1,.slice s2 n2 k2])(hr:w.heap[b]? =some (.cells #[.string ⟨#[]⟩,int u64 0,int u64 0,.bool false,.slice none 0 0,.slice none 0 0] 89)):
    Does prog (Opr dst (.store 89 x y) ty ps af gd) A w fun _ w'=>Turned b (.cells #[.string cx,int u64 x1,int u64 y1,.bool c1,.slice s1 n1 k1,.slice s2 n2 k2] 89) w w':=pu_any hx hy hr rfl size_bat (by kernel_rfl)
theorem bu0_evd:Does prog (Opr dst (.build 41 #[]) ty ps af gd) A w fun v' w'=>v'= .agg #[.slice none 0 0,int u64 0,int u64 0]∧Bl w w':=dv (by generalize A.eval=ev at*;simp [execOp,go_sem])
theorem size_evd:(prog.info? 41).map (·.size)=some 3:=by kernel_rfl
end
theorem cf_impl_batch_prove (args:Array Value)(w:World):(callFunc 158 args).run prog w= .ok (.enter 158 args) w:=by kernel_rfl
section
variable {A:Act}{w:World}{dst:Option Tmp}{ty:TypeId}{ps:String}{af:Array Edge}{gd:Option (Nat×Bool)}{x y:Operand}{b i:Nat}
theorem sl_pts1 {x0:Operand}{x0' y0':Int}{c0':Bool}(h0:A.eval x0= .agg #[int u64 x0',int u64 y0',.bool c0']):
    Does prog (Opr dst (.buildSlice 37 1 #[(0,x0)]) ty ps af gd) A w fun v w'=>v= .slice (some ⟨w.heap.size,0,none⟩) 1 1∧w'=w.alloc (.cells #[int u64 x0',int u64 y0',.bool c0'] 25):=by
  have h:(execOp A.eval (Opr dst (.buildSlice 37 1 #[(0,x0)]) ty ps af gd)).run prog w= .ok (.value (.slice (some ⟨w.heap.size,0,none⟩) 1 1)) (w.alloc (.cells #[int u64 x0',int u64 y0',.bool c0'] 25)):=by generalize A.eval=ev at*;simp [execOp,h0,go_sem]
  exact does_value h ⟨rfl,rfl⟩
end
end Go.Proofs.YtjmhmajfkdglnabGreatDoor
