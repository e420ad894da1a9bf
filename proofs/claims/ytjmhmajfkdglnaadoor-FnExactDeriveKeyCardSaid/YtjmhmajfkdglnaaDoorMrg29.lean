import Derived.Test.YtjmhmajfkdglnaaDoorMrg8
import Derived.Test.YtjmhmajfkdglnaaDoorMrg28
import Derived.Test.YtjmhmajfkdglnaaDoorMrg6
import Derived.Test.YtjmhmajfkdglnaaDoorMrg21
namespace Go.Proofs.YtjmhmajfkdglnaaDoor
open Go.RowKit
set_option linter.unusedVariables false

/-- the context of a mode -/
def ctxB (k : Nat) : ByteArray := ⟨#[84, 79, 89, 80, 82, 70, 45]⟩ ++ (⟨#[48, 49, 50]⟩ : ByteArray).extract k (k + 1) ++ ⟨#[45, 77, 54, 49]⟩
theorem tagB_ctx (word : ByteArray) (k : Nat) : tagB word k = word ++ ctxB k := by
  unfold tagB ctxB
  rw [← ByteArray.append_assoc, ← ByteArray.append_assoc]
theorem ctxB_size (k : Nat) (h : k < 3) : (ctxB k).size = 12 := by
  rcases (show k = 0 ∨ k = 1 ∨ k = 2 by omega) with rfl | rfl | rfl <;> rfl
theorem ctx0 : ctxB 0 = ⟨#[84, 79, 89, 80, 82, 70, 45, 48, 45, 77, 54, 49]⟩ := by kernel_rfl
set_option maxRecDepth 100000 in
theorem smlI (k : Nat) (w : World) (hk : k < 3) :
    Calls Tryd.prog 46 #[.int .i64 k] w fun e w' => e = .returned (.string ((⟨#[48, 49, 50]⟩ : ByteArray).extract k (k + 1))) ∧ w = w' := by
  rcases (show k = 0 ∨ k = 1 ∨ k = 2 by omega) with rfl | rfl | rfl
  · go_enter Tryd.func46, Tryd.ntmps46
    go_wp2
    go_ret
    exact ⟨congrArg (fun s => Ending.returned (Value.string s)) (by kernel_rfl), rfl⟩
  · go_enter Tryd.func46, Tryd.ntmps46
    go_wp2
    go_ret
    exact ⟨congrArg (fun s => Ending.returned (Value.string s)) (by kernel_rfl), rfl⟩
  · go_enter Tryd.func46, Tryd.ntmps46
    go_wp2
    go_ret
    exact ⟨congrArg (fun s => Ending.returned (Value.string s)) (by kernel_rfl), rfl⟩
set_option maxRecDepth 100000 in
theorem fmtI_of (k : Int) (s : ByteArray) (w : World) (h0 : 0 ≤ k) (h1 : k < 100)
    (L : ∀ w, Calls Tryd.prog 46 #[.int .i64 k] w fun e w' => e = .returned (.string s) ∧ w = w') :
    Calls Tryd.prog 40 #[.int .i64 k, .int .i64 10] w fun e w' => e = .returned (.string s) ∧ w = w' := by
  go_enter Tryd.func40, Tryd.ntmps40
  go_wp2_with fail
  refine (L _).mono ?_
  rintro e w1 ⟨rfl, rfl⟩
  go_wp2
  go_ret
  exact ⟨rfl, rfl⟩
set_option maxRecDepth 100000 in
theorem itoI_of (k : Int) (s : ByteArray) (w : World)
    (L : ∀ w, Calls Tryd.prog 40 #[.int .i64 k, .int .i64 10] w fun e w' => e = .returned (.string s) ∧ w = w') :
    Calls Tryd.prog 32 #[.int .i64 k] w fun e w' => e = .returned (.string s) ∧ w = w' := by
  go_enter Tryd.func32, Tryd.ntmps32
  go_wp2_with fail
  refine (L _).mono ?_
  rintro e w1 ⟨rfl, rfl⟩
  go_wp2
  go_ret
  exact ⟨rfl, rfl⟩
set_option maxRecDepth 100000 in
theorem itoP_of (k : Int) (s : ByteArray) (w : World)
    (L : ∀ w, Calls Tryd.prog 32 #[.int .i64 k] w fun e w' => e = .returned (.string s) ∧ w = w') :
    Calls Tryd.prog 22 #[.int .i64 k] w fun e w' => e = .returned (.string s) ∧ w = w' := by
  go_enter Tryd.func22, Tryd.ntmps22
  go_wp2_with fail
  refine (L _).mono ?_
  rintro e w1 ⟨rfl, rfl⟩
  go_wp2
  go_ret
  exact ⟨rfl, rfl⟩
set_option maxRecDepth 100000 in
theorem ctxI_yes (k : Nat) (w : World) (hk : k < 3) :
    Calls Tryd.prog 14 #[.int .i64 k] w fun e w' => e = .returned (.tuple #[.string (ctxB k), .bool true]) ∧ w = w' := by
  have L := fun w => itoP_of k _ w (fun w => itoI_of k _ w (fun w => fmtI_of k _ w (by omega) (by omega) (fun w => smlI k w hk)))
  have hs : ((⟨#[48, 49, 50]⟩ : ByteArray).extract k (k + 1)).size = 1 := by
    rcases (show k = 0 ∨ k = 1 ∨ k = 2 by omega) with rfl | rfl | rfl <;> rfl
  unfold ctxB
  generalize (⟨#[48, 49, 50]⟩ : ByteArray).extract k (k + 1) = D at *
  have g1 : ¬ (k : Int) < 0 := by omega
  have g2 : ¬ (3 : Int) ≤ (k : Int) := by omega
  have q1 : ¬ (9223372036854775807 < (ByteArray.mk #[84, 79, 89, 80, 82, 70, 45]).size + D.size) := by rw [hs]; decide
  have q2 : ¬ (9223372036854775807 < (ByteArray.mk #[84, 79, 89, 80, 82, 70, 45] ++ D).size + (ByteArray.mk #[45, 77, 54, 49]).size) := by rw [ByteArray.size_append, hs]; decide
  go_enter Tryd.func14, Tryd.ntmps14
  go_wp2_with fail
  refine (L _).mono ?_
  rintro e w1 ⟨rfl, rfl⟩
  clear L hk
  go_wp2
  go_ret2
  exact ⟨rfl, rfl⟩
set_option maxRecDepth 100000 in
theorem ctxI_no (k : Int) (w : World) (hk : ¬ (0 ≤ k ∧ k ≤ 2)) :
    Calls Tryd.prog 14 #[.int .i64 k] w fun e w' => e = .returned (.tuple #[.string ⟨#[]⟩, .bool false]) ∧ w = w' := by
  by_cases h0 : k < 0
  · clear hk
    go_enter Tryd.func14, Tryd.ntmps14
    go_wp2
    go_ret2
    exact ⟨rfl, rfl⟩
  · have g2 : (3 : Int) ≤ k := by omega
    clear hk
    go_enter Tryd.func14, Tryd.ntmps14
    go_wp2
    go_ret2
    exact ⟨rfl, rfl⟩
set_option maxRecDepth 100000 in
theorem tagI_any (c word : ByteArray) (w : World) (h1 : c.size ≤ 1000) (h2 : word.size ≤ 1000) :
    Calls Tryd.prog 18 #[.string c, .string word] w fun e w' => e = .returned (.string (word ++ c)) ∧ Below w.heap.size w w' := by
  go_enter Tryd.func18, Tryd.ntmps18
  go_wp2
  go_ret
  exact ⟨rfl, Below.refl _ _⟩
end Go.Proofs.YtjmhmajfkdglnaaDoor

namespace Go.Proofs.YtjmhmajfkdglnaaDoor
open Go.RowKit
set_option linter.unusedVariables false

theorem catA_le (t : ByteArray) : ∀ (l r : List ByteArray), (catA t l).size ≤ (catA t (l ++ r)).size := by
  intro l r
  unfold catA
  rw [List.foldl_append]
  generalize List.foldl (· ++ ·) t l = u
  induction r generalizing u with
  | nil => exact Nat.le_refl _
  | cons a r ih =>
    rw [List.foldl_cons]
    refine Nat.le_trans ?_ (ih (u ++ a))
    rw [ByteArray.size_append]; omega
/-- a transcript goes on with parts that lie in a new block -/
theorem with_blk (t : ByteArray) (L : List (Value × ByteArray)) (g n : Nat) (T : TypeId) (cs : Array Value) (w : World) (hr : w.heap[g]? = some (.cells cs T)) (hcs : cs.toList = L.map (·.1)) (hl : L.length = n) (hn : n ≤ 100) (hW : ∀ vs ∈ L, Writ vs.1 vs.2)
    (hz : (catA t (L.map (·.2))).size ≤ 300000) :
    Calls Tryd.prog 15 #[.string t, .slice (some ⟨g, 0, none⟩) n n] w fun e w' => e = .returned (.string (catA t (L.map (·.2)))) ∧ Below w.heap.size w w' := by
  refine withI_any t g n L w hl hn (Array.getElem?_eq_some_iff.1 hr).1 (fun i v s hi => ⟨?_, hW _ (List.mem_of_getElem? hi)⟩) (fun i hi => ?_)
  · rw [cell_of_row _ _ _ _ _ _ hr, ← Array.getElem?_toList, hcs, List.getElem?_map, hi]; rfl
  · refine Nat.le_trans ?_ hz
    have := catA_le t ((L.take i).map (·.2)) ((L.drop i).map (·.2))
    rwa [← List.map_append, List.take_append_drop] at this
/-- the hash of one text that lies in a new block -/
theorem hash_blk (s : ByteArray) (g : Nat) (T : TypeId) (w : World) (hT : TabK w) (hr : w.heap[g]? = some (.cells #[.string s] T)) (hs : s.size ≤ 1000000) :
    Calls Tryd.prog 50 #[.slice (some ⟨g, 0, none⟩) 1 1] w fun e w' => e = .returned (.string (strOfNums (shaF (byt s)))) ∧ Below w.heap.size w w' := by
  have := hashOfI_any g 1 1 [s] w hT (by simp [sizeB]; omega) rfl (by omega) (by omega) (fun i hi => by
    obtain rfl : i = 0 := by omega
    rw [cell_of_row _ _ _ _ _ _ hr]; rfl)
  rwa [show catB [s] = byt s by simp [catB]] at this
theorem does_append_ow {w : World} {o : Oper} {a : Act} (s x : Operand) (t : TypeId) (ho : o.op = .call { callee := .builtin .append, args := #[s, x], argTypes := #[t, t] })
    (base : Nat) (e : TypeId) (i : TypeInfo) (z : Value) (size bytes : Nat) (ht : Tryd.prog.underlying t = some (.slice e)) (hi : Tryd.prog.info? e = some i) (hz : i.zero = some z)
    (hsize : i.size = size) (hby : i.bytes = bytes) (hzs : z.cells.size = size) (hsz : 0 < size)
    (v : Value) (n : Nat) (xs : List Value) (hs : a.eval s = v) (hown : w.ownsRow base e size v n xs)
    (ad : Addr) (m c : Nat) (news : List Value) (hx : a.eval x = .slice (some ad) m c) (hl : news.length = m * size) (hnews : ∀ j u, news[j]? = some u → w.cell? (ad.add j) = some u) (h1 : ∀ u ∈ news, u.oneCell' = true)
    (hm : 0 < m) (h63 : n + m ≤ maxLen) (hbytes : (n + m) * bytes ≤ 140737488355328) (hbase : base ≤ w.heap.size) :
    Does Tryd.prog o a w fun v' w' => ∃ g cap, v' = .slice (some ⟨g, 0, none⟩) (n + m) cap ∧ w'.ownsRow base e size (.slice (some ⟨g, 0, none⟩) (n + m) cap) (n + m) (xs ++ news) ∧ w.grownBy w' v.ownBlock := by
  intro Q K hK
  obtain ⟨g, cap, w', hr, h2, h3, -, h5⟩ := run_append_lies (P := Tryd.prog) w t o.type base e i z size bytes ht hi hz hsize hby hzs hsz v n xs hown ad m c news hl hnews h1 hm h63 hbytes hbase w.heap.size rfl
  unfold Oper.wp execOp
  simp only [ho, resolve, invoke, builtin, Sem.run_bind, Sem.run_pure, Result.andThen_ok, List.map_toArray, List.map_cons, List.map_nil, hs, hx, hr]
  exact hK _ _ ⟨g, cap, rfl, h2, h3⟩
theorem own_ne {W : World} {base : Nat} {e T : TypeId} {size : Nat} {v : Value} {n : Nat} {xs : List Value} {b : Nat} {cs : Array Value} (hown : W.ownsRow base e size v n xs) (h : W.heap[b]? = some (.cells cs T)) (hne : T ≠ e) : v.ownBlock ≠ some b := by
  rcases hown.2 with ⟨rfl, _⟩ | ⟨g, cap, cur, rfl, hbg, hg, -⟩
  · intro h'; cases h'
  · intro h'
    have h2 : g = b := by simpa [Value.ownBlock] using h'
    subst h2
    rw [h] at hg
    cases hg
    exact hne rfl
theorem eml (s : ByteArray) : (⟨#[]⟩ : ByteArray) ++ s = s := ByteArray.empty_append

theorem below_own3 {w w' : World} {B : Nat} {e : TypeId} {s : Nat} {v : Value} {n : Nat} {xs : List Value} (h : w.ownsRow B e s v n xs) (hb : Below w.heap.size w w') : w'.ownsRow B e s v n xs := by
  refine ⟨h.1, ?_⟩
  rcases h.2 with h2 | ⟨g, cap, cur, hv, hbg, hg, hr⟩
  · exact .inl h2
  · refine .inr ⟨g, cap, cur, hv, hbg, ?_, hr⟩
    rw [hb.block g (Array.getElem?_eq_some_iff.1 hg).1]; exact hg
end Go.Proofs.YtjmhmajfkdglnaaDoor
