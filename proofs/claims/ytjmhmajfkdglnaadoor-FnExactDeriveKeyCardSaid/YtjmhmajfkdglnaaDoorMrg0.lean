import Derived.WalkKit
import Derived.Laws.BitsAllLaws
import Derived.Deep.AppendLies
import Derived.Deep.MidRow
/-
  Plain functions on integers and lists: the hash of FIPS 180-4 as the specification's text reckons it. No program is named here.
-/
namespace Go.Proofs.YtjmhmajfkdglnaaDoor

/-- x turned right by n, of 32 bits -/
def rotr (x n : Int) : Int := bits BinOp.or IntKind.u32 (x / 2 ^ n.toNat) (x * 2 ^ (32 - n).toNat % 4294967296)
def lk (l : List Int) (i : Nat) : Int := l.getD i 0
theorem mask31 (k : Int) (h0 : -32 < k) (h1 : k < 0) : bits BinOp.and IntKind.u64 (IntKind.u64.wrap k) 31 = 32 + k := by
  have e : IntKind.u64.wrap k = k + 18446744073709551616 := by rw [IntKind.wrap_u64]; omega
  rw [e, u64_and _ _ (by omega) (by omega) (by omega) (by omega)]
  have : (31 : Int).toNat = 31 := rfl
  rw [this, nat_mask5]
  omega
theorem or_comm32 (a b : Int) : bits BinOp.or IntKind.u32 a b = bits BinOp.or IntKind.u32 b a := by
  show IntKind.u32.wrap ((BitVec.ofInt 32 a ||| BitVec.ofInt 32 b).toNat : Int) = IntKind.u32.wrap ((BitVec.ofInt 32 b ||| BitVec.ofInt 32 a).toNat : Int)
  rw [BitVec.or_comm]
theorem bits_lo (op : BinOp) (a b : Int) : 0 ≤ bits op IntKind.u32 a b ∧ bits op IntKind.u32 a b < 4294967296 := by
  cases op <;> simp only [bits, IntKind.wrap_u32'] <;> omega
theorem rotr_lo (x n : Int) : 0 ≤ rotr x n ∧ rotr x n < 4294967296 := bits_lo _ _ _
theorem u32_in (a : Int) (h0 : 0 ≤ a) (h1 : a < 4294967296) : IntKind.u32.wrap a = a := by rw [IntKind.wrap_u32']; omega
theorem i64_in (a : Int) (h0 : -9223372036854775808 ≤ a) (h1 : a < 9223372036854775808) : IntKind.i64.wrap a = a := by
  simp [IntKind.wrap, IntKind.bits, IntKind.signed]; split <;> omega
/-- the word at a place of a text of bytes, the first byte highest -/
def word (m : List Int) (p : Nat) : Int := bits BinOp.or IntKind.u32 (bits BinOp.or IntKind.u32 (bits BinOp.or IntKind.u32 (lk m p * 16777216) (lk m (p + 1) * 65536)) (lk m (p + 2) * 256)) (lk m (p + 3))
def sg0 (a : Int) : Int := bits BinOp.xor IntKind.u32 (bits BinOp.xor IntKind.u32 (rotr a 7) (rotr a 18)) (a / 8)
def sg1 (a : Int) : Int := bits BinOp.xor IntKind.u32 (bits BinOp.xor IntKind.u32 (rotr a 17) (rotr a 19)) (a / 1024)
/-- the next word out of those before -/
def nextw (l : List Int) (k : Nat) : Int := (((lk l (k - 16) + sg0 (lk l (k - 15))) % 4294967296 + lk l (k - 7)) % 4294967296 + sg1 (lk l (k - 2))) % 4294967296
/-- the first k words of a block that begins at p -/
def wsTo (m : List Int) (p : Nat) : Nat → List Int
  | 0 => []
  | k + 1 => wsTo m p k ++ [if k < 16 then word m (p + 4 * k) else nextw (wsTo m p k) k]
theorem wsTo_lo (m : List Int) (p k : Nat) (h : k < 16) : (wsTo m p (k + 1)).map (Value.int .u32) = (wsTo m p k).map (Value.int .u32) ++ [.int .u32 (word m (p + 4 * k))] := by
  rw [wsTo, if_pos h, List.map_append]; rfl
theorem wsTo_hi (m : List Int) (p k : Nat) (h : 16 ≤ k) : (wsTo m p (k + 1)).map (Value.int .u32) = (wsTo m p k).map (Value.int .u32) ++ [.int .u32 (nextw (wsTo m p k) k)] := by
  rw [wsTo, if_neg (by omega), List.map_append]; rfl
theorem wsTo_length (m : List Int) (p : Nat) : ∀ k, (wsTo m p k).length = k
  | 0 => rfl
  | k + 1 => by rw [wsTo, List.length_append, wsTo_length m p k]; rfl
theorem lk_append_lt (l r : List Int) (i : Nat) (h : i < l.length) : lk (l ++ r) i = lk l i := by
  unfold lk; rw [List.getD_eq_getElem?_getD, List.getD_eq_getElem?_getD, List.getElem?_append_left h]
theorem lk_append_at (l : List Int) (x : Int) : lk (l ++ [x]) l.length = x := by
  unfold lk; simp
theorem wsTo_lo32 (m : List Int) (p : Nat) : ∀ k j, 0 ≤ lk (wsTo m p k) j ∧ lk (wsTo m p k) j < 4294967296
  | 0, j => by simp [wsTo, lk]
  | k + 1, j => by
    rw [wsTo]
    by_cases h : j < (wsTo m p k).length
    · rw [lk_append_lt _ _ _ h]; exact wsTo_lo32 m p k j
    · by_cases e : j = (wsTo m p k).length
      · subst e; rw [lk_append_at]; split
        · exact bits_lo _ _ _
        · unfold nextw; omega
      · have : lk (wsTo m p k ++ [if k < 16 then word m (p + 4 * k) else nextw (wsTo m p k) k]) j = 0 := by
          unfold lk; rw [List.getD_eq_getElem?_getD, List.getElem?_eq_none (by simp; omega)]; rfl
        rw [this]; omega
structure St where
  a : Int
  b : Int
  c : Int
  d : Int
  e : Int
  f : Int
  g : Int
  z : Int
def bg1 (e : Int) : Int := bits BinOp.xor IntKind.u32 (bits BinOp.xor IntKind.u32 (rotr e 6) (rotr e 11)) (rotr e 25)
def bg0 (a : Int) : Int := bits BinOp.xor IntKind.u32 (bits BinOp.xor IntKind.u32 (rotr a 2) (rotr a 13)) (rotr a 22)
def chF (e f g : Int) : Int := bits BinOp.xor IntKind.u32 (bits BinOp.and IntKind.u32 e f) (bits BinOp.and IntKind.u32 (bits BinOp.xor IntKind.u32 (if IntKind.u32.signed = true then -1 else IntKind.u32.max) e) g)
def majF (a b c : Int) : Int := bits BinOp.xor IntKind.u32 (bits BinOp.xor IntKind.u32 (bits BinOp.and IntKind.u32 a b) (bits BinOp.and IntKind.u32 a c)) (bits BinOp.and IntKind.u32 b c)
def tt1 (s : St) (k w : Int) : Int := (s.z + bg1 s.e + chF s.e s.f s.g + k + w) % 4294967296
def tt2 (s : St) : Int := (bg0 s.a + majF s.a s.b s.c) % 4294967296
def rnd (s : St) (k w : Int) : St := ⟨(tt1 s k w + tt2 s) % 4294967296, s.a, s.b, s.c, (s.d + tt1 s k w) % 4294967296, s.e, s.f, s.g⟩
def rndTo (s : St) (ks ws : List Int) : Nat → St
  | 0 => s
  | i + 1 => rnd (rndTo s ks ws i) (lk ks i) (lk ws i)
def w32 (x : Int) : Prop := 0 ≤ x ∧ x < 4294967296
def St.ok (s : St) : Prop := w32 s.a ∧ w32 s.b ∧ w32 s.c ∧ w32 s.d ∧ w32 s.e ∧ w32 s.f ∧ w32 s.g ∧ w32 s.z
theorem rnd_ok (s : St) (k w : Int) (h : s.ok) : (rnd s k w).ok := by
  obtain ⟨h1, h2, h3, h4, h5, h6, h7, h8⟩ := h
  refine ⟨?_, h1, h2, h3, ?_, h5, h6, h7⟩ <;> (unfold rnd w32; dsimp only; omega)
theorem rndTo_ok (s : St) (ks ws : List Int) (h : s.ok) : ∀ i, (rndTo s ks ws i).ok
  | 0 => h
  | i + 1 => rnd_ok _ _ _ (rndTo_ok s ks ws h i)
def stOf (l : List Int) : St := ⟨lk l 0, lk l 1, lk l 2, lk l 3, lk l 4, lk l 5, lk l 6, lk l 7⟩
/-- the eight words behind a block -/
def blockF (ks : List Int) (h : List Int) (ws : List Int) : List Int :=
  [(lk h 0 + (rndTo (stOf h) ks ws 64).a) % 4294967296, (lk h 1 + (rndTo (stOf h) ks ws 64).b) % 4294967296, (lk h 2 + (rndTo (stOf h) ks ws 64).c) % 4294967296, (lk h 3 + (rndTo (stOf h) ks ws 64).d) % 4294967296,
   (lk h 4 + (rndTo (stOf h) ks ws 64).e) % 4294967296, (lk h 5 + (rndTo (stOf h) ks ws 64).f) % 4294967296, (lk h 6 + (rndTo (stOf h) ks ws 64).g) % 4294967296, (lk h 7 + (rndTo (stOf h) ks ws 64).z) % 4294967296]
end Go.Proofs.YtjmhmajfkdglnaaDoor

/-
  Small laws of our own on worlds; no program is named here. An append onto a slice that the call owns keeps the cells of the old slice, whether it grew in place or moved.
-/
namespace Go.Proofs.YtjmhmajfkdglnaaDoor
open Go Go.RowKit
set_option linter.unusedVariables false

theorem run_append_keeps {P : Program} (w : World) (t ty : TypeId) (base : Nat) (e : TypeId) (i : TypeInfo) (z : Value) (bytes : Nat) (ht : P.underlying t = some (.slice e)) (hi : P.info? e = some i) (hz : i.zero = some z)
    (hsize : i.size = 1) (hby : i.bytes = bytes) (hzs : z.cells.size = 1)
    (g0 n cap0 : Nat) (xs : List Value) (hown : w.ownsRow base e 1 (.slice (some ⟨g0, 0, none⟩) n cap0) n xs)
    (ad : Addr) (m c : Nat) (news : List Value) (hl : news.length = m * 1) (hnews : ∀ j u, news[j]? = some u → w.cell? (ad.add j) = some u) (h1 : ∀ u ∈ news, u.oneCell' = true)
    (hm : 0 < m) (h63 : n + m ≤ maxLen) (hbytes : (n + m) * bytes ≤ 140737488355328) (hbase : base ≤ w.heap.size) (H : Nat) (hH : w.heap.size = H) :
    ∃ g cap w', (Builtin.append_ #[t, t] ty #[.slice (some ⟨g0, 0, none⟩) n cap0, .slice (some ad) m c]).run P w = .ok (.slice (some ⟨g, 0, none⟩) (n + m) cap) w' ∧
      w'.ownsRow base e 1 (.slice (some ⟨g, 0, none⟩) (n + m) cap) (n + m) (xs ++ news) ∧ w.grownBy w' (some g0) ∧ (g0 = g ∨ g = H) ∧ g < w'.heap.size ∧
      (∀ j u, xs[j]? = some u → w'.cell? ⟨g0, j, none⟩ = some u) := by
  obtain ⟨g, cap, w', hr, h2, h3, h4, h5⟩ := run_append_lies (P := P) w t ty base e i z 1 bytes ht hi hz hsize hby hzs (by omega) (.slice (some ⟨g0, 0, none⟩) n cap0) n xs hown ad m c news hl hnews h1 hm h63 hbytes hbase H hH
  refine ⟨g, cap, w', hr, h2, h3, ?_, h5, ?_⟩
  · rcases h4 with h4 | h4
    · left; simpa [Value.ownBlock] using h4
    · right; exact h4
  · intro j u hu
    rcases hown.2 with ⟨h0, _⟩ | ⟨g', cap', cur, hv, hbg, hg, hnc, hcm, hcs, htake⟩
    · cases h0
    · obtain ⟨rfl, rfl⟩ : g0 = g' ∧ cap0 = cap' := by simpa using hv
      by_cases hroom : n + m ≤ cap0
      · have hfit : n * i.size + news.length ≤ cur.size := by rw [hsize, hl, hcs]; omega
        have hr2 := run_append_room (P := P) w t ty e i ht hi g0 n cap0 cur hg ad m c news (by rw [hsize]; exact hl) hnews h1 hroom hfit
        rw [hr2] at hr
        simp only [Result.ok.injEq, Value.slice.injEq, Option.some.injEq, Addr.mk.injEq, and_true, true_and] at hr
        obtain ⟨⟨hgg, _⟩, _⟩ := hr
        have hc := h2.cells (g := g) rfl j u (by rw [List.getElem?_append_left (by have := (List.getElem?_eq_some_iff.1 hu).1; exact this)]; exact hu)
        rw [Addr.add_mid, Nat.zero_add, ← hgg] at hc
        exact hc
      · have hr2 := run_append_grow (P := P) w t ty e i z ht hi hz ⟨g0, 0, none⟩ n cap0 xs (by rw [hsize]; exact hown.1) (hown.cells (g := g0) rfl) ad m c news (by rw [hsize]; exact hl) hnews (by omega) (by simp only [maxLen] at h63; omega) (growslice_fits (by omega) (by rw [hby]; exact hbytes))
        rw [hr2] at hr
        simp only [Result.ok.injEq] at hr
        obtain ⟨_, rfl⟩ := hr
        have hc := hown.cells (g := g0) rfl j u hu
        rw [Addr.add_mid, Nat.zero_add] at hc
        have hlt : g0 < w.heap.size := (Array.getElem?_eq_some_iff.1 hg).1
        rw [World.cell?_of_block (w := w) (heap_alloc_old w.drew _ hlt)]
        exact hc

theorem step_append_keeps {P : Program} {w : World} {ops : Array Oper} {o : Oper} {a : Act} {K : Act → World → Prop} {Q : Exit → Act → World → Prop} {E : Prop} (hgd : o.guard = none) (s x : Operand) (t : TypeId)
    (ho : o.op = .call { callee := .builtin .append, args := #[s, x], argTypes := #[t, t] })
    (base : Nat) (e : TypeId) (i : TypeInfo) (z : Value) (bytes : Nat) (ht : P.underlying t = some (.slice e)) (hi : P.info? e = some i) (hz : i.zero = some z)
    (hsize : i.size = 1) (hby : i.bytes = bytes) (hzs : z.cells.size = 1)
    (g0 n cap0 : Nat) (xs : List Value) (hs : a.eval s = .slice (some ⟨g0, 0, none⟩) n cap0) (hown : w.ownsRow base e 1 (.slice (some ⟨g0, 0, none⟩) n cap0) n xs)
    (ad : Addr) (m c : Nat) (news : List Value) (hx : a.eval x = .slice (some ad) m c) (hl : news.length = m * 1) (hnews : ∀ j u, news[j]? = some u → w.cell? (ad.add j) = some u) (h1 : ∀ u ∈ news, u.oneCell' = true)
    (hm : 0 < m) (h63 : n + m ≤ maxLen) (hbytes : (n + m) * bytes ≤ 140737488355328) (hbase : base ≤ w.heap.size) (H : Nat) (hH : w.heap.size = H)
    (h : ∀ g cap w', w'.ownsRow base e 1 (.slice (some ⟨g, 0, none⟩) (n + m) cap) (n + m) (xs ++ news) → w.grownBy w' (some g0) → (g0 = g ∨ g = H) → g < w'.heap.size →
      (∀ j u, xs[j]? = some u → w'.cell? ⟨g0, j, none⟩ = some u) → K (a.put o.dst (.slice (some ⟨g, 0, none⟩) (n + m) cap)) w') :
    if Region.wanted o (yielded ops a.tmps) = true then Oper.wp P o a w K Q else E := by
  have hw : Region.wanted o (yielded ops a.tmps) = true := by simp [Region.wanted, hgd]
  rw [if_pos hw]
  obtain ⟨g, cap, w', hr, h2, h3, h4, h5, h6⟩ := run_append_keeps (P := P) w t o.type base e i z bytes ht hi hz hsize hby hzs g0 n cap0 xs hown ad m c news hl hnews h1 hm h63 hbytes hbase H hH
  unfold Oper.wp execOp
  simp only [ho, resolve, invoke, builtin, Sem.run_bind, Sem.run_pure, Result.andThen_ok, List.map_toArray, List.map_cons, List.map_nil, hs, hx, hr]
  exact h g cap w' h2 h3 h4 h5 h6

/-- a cell of a row of integers that the call owns -/
theorem own_cell {w : World} {base : Nat} {e : TypeId} {k : IntKind} {g n cap : Nat} {xs : List Int} (h : w.ownsRow base e 1 (.slice (some ⟨g, 0, none⟩) n cap) n (xs.map (Value.int k))) (j : Nat) (hj : j < n) :
    w.cell? ⟨g, j, none⟩ = some (.int k (lk xs j)) := by
  unfold lk
  have hl := h.1
  simp only [List.length_map, Nat.mul_one] at hl
  rw [h.cellAt j (by omega), List.getElem?_map, List.getElem?_eq_getElem (by omega), List.getD_eq_getElem?_getD, List.getElem?_eq_getElem (by omega)]
  rfl
theorem own_get {w : World} {base : Nat} {e : TypeId} {k : IntKind} {v : Value} {n : Nat} {xs : List Int} (h : w.ownsRow base e 1 v n (xs.map (Value.int k))) (j : Nat) (hj : j < n) :
    (xs.map (Value.int k))[j]? = some (.int k (lk xs j)) := by
  have hl := h.1
  simp only [List.length_map, Nat.mul_one] at hl
  unfold lk
  rw [List.getElem?_map, List.getElem?_eq_getElem (by omega), List.getD_eq_getElem?_getD, List.getElem?_eq_getElem (by omega)]
  rfl
end Go.Proofs.YtjmhmajfkdglnaaDoor
