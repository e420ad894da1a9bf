import Derived.WalkKit
import Derived.Laws.BitsAllLaws
import Derived.Deep.AppendLies
import Derived.Deep.MidRow
import Derived.ArgAppend
import Derived.Deep.Upon
import Derived.Lib.ConvBytes
import Derived.Laws.BytesArg
set_option linter.unusedVariables false
set_option maxRecDepth 100000
set_option maxHeartbeats 16000000
namespace Go.Proofs.YtdaobioomoajfaaGreat
def rotr (x n : Int) : Int := bits BinOp.or IntKind.u32 (x / 2 ^ n.toNat) (x * 2 ^ (32 - n).toNat % 4294967296)
def lk (l : List Int) (i : Nat) : Int := l.getD i 0
def word (m : List Int) (p : Nat) : Int := bits BinOp.or IntKind.u32 (bits BinOp.or IntKind.u32 (bits BinOp.or IntKind.u32 (lk m p * 16777216) (lk m (p + 1) * 65536)) (lk m (p + 2) * 256)) (lk m (p + 3))
def sg0 (a : Int) : Int := bits BinOp.xor IntKind.u32 (bits BinOp.xor IntKind.u32 (rotr a 7) (rotr a 18)) (a / 8)
def sg1 (a : Int) : Int := bits BinOp.xor IntKind.u32 (bits BinOp.xor IntKind.u32 (rotr a 17) (rotr a 19)) (a / 1024)
def nextw (l : List Int) (k : Nat) : Int := (((lk l (k - 16) + sg0 (lk l (k - 15))) % 4294967296 + lk l (k - 7)) % 4294967296 + sg1 (lk l (k - 2))) % 4294967296
def wsTo (m : List Int) (p : Nat) : Nat → List Int
  | 0 => []
  | k + 1 => wsTo m p k ++ [if k < 16 then word m (p + 4 * k) else nextw (wsTo m p k) k]
structure St where
  a : Int
  b : Int
  c : Int
  d : Int
  e : Int
  f : Int
  g : Int
  z : Int
def bg1 (e : Int) : Int := bits BinOp.xor IntKind.u32 (bits BinOp.xor IntKind.u32 (rotr e 6) (rotr e 11)) (rotr e 25)
def bg0 (a : Int) : Int := bits BinOp.xor IntKind.u32 (bits BinOp.xor IntKind.u32 (rotr a 2) (rotr a 13)) (rotr a 22)
def chF (e f g : Int) : Int := bits BinOp.xor IntKind.u32 (bits BinOp.and IntKind.u32 e f) (bits BinOp.and IntKind.u32 (bits BinOp.xor IntKind.u32 (if IntKind.u32.signed = true then -1 else IntKind.u32.max) e) g)
def majF (a b c : Int) : Int := bits BinOp.xor IntKind.u32 (bits BinOp.xor IntKind.u32 (bits BinOp.and IntKind.u32 a b) (bits BinOp.and IntKind.u32 a c)) (bits BinOp.and IntKind.u32 b c)
def tt1 (s : St) (k w : Int) : Int := (s.z + bg1 s.e + chF s.e s.f s.g + k + w) % 4294967296
def tt2 (s : St) : Int := (bg0 s.a + majF s.a s.b s.c) % 4294967296
def rnd (s : St) (k w : Int) : St := ⟨(tt1 s k w + tt2 s) % 4294967296, s.a, s.b, s.c, (s.d + tt1 s k w) % 4294967296, s.e, s.f, s.g⟩
def rndTo (s : St) (ks ws : List Int) : Nat → St
  | 0 => s
  | i + 1 => rnd (rndTo s ks ws i) (lk ks i) (lk ws i)
def stOf (l : List Int) : St := ⟨lk l 0, lk l 1, lk l 2, lk l 3, lk l 4, lk l 5, lk l 6, lk l 7⟩
def blockF (ks : List Int) (h : List Int) (ws : List Int) : List Int :=
  [(lk h 0 + (rndTo (stOf h) ks ws 64).a) % 4294967296, (lk h 1 + (rndTo (stOf h) ks ws 64).b) % 4294967296, (lk h 2 + (rndTo (stOf h) ks ws 64).c) % 4294967296, (lk h 3 + (rndTo (stOf h) ks ws 64).d) % 4294967296,
   (lk h 4 + (rndTo (stOf h) ks ws 64).e) % 4294967296, (lk h 5 + (rndTo (stOf h) ks ws 64).f) % 4294967296, (lk h 6 + (rndTo (stOf h) ks ws 64).g) % 4294967296, (lk h 7 + (rndTo (stOf h) ks ws 64).z) % 4294967296]
end Go.Proofs.YtdaobioomoajfaaGreat
namespace Go.Proofs.YtdaobioomoajfaaGreat
open Go Go.RowKit
end Go.Proofs.YtdaobioomoajfaaGreat
namespace Go.Proofs.YtdaobioomoajfaaGreat
open Go Go.RowKit
structure Row (w : World) (base g n cap : Nat) (xs : List Value) : Prop where
  lo : base ≤ g
  hi : g < w.heap.size
  len : xs.length = n
  le : n ≤ cap
  max : cap ≤ maxLen
  cells : ∀ j u, xs[j]? = some u → w.cell? ⟨g, j, none⟩ = some u
  room : ∀ j, j < cap → (w.cell? ⟨g, j, none⟩).isSome = true ∧ w.frozen? ⟨g, j, none⟩ = false
theorem Row.same {w w' : World} {base g n cap : Nat} {xs : List Value} (h : Row w base g n cap xs) (hb : w'.heap[g]? = w.heap[g]?) (hs : w.heap.size ≤ w'.heap.size) : Row w' base g n cap xs :=
  ⟨h.lo, Nat.lt_of_lt_of_le h.hi hs, h.len, h.le, h.max, fun j u hu => (World.cell?_of_block (w := w) (a := ⟨g, j, none⟩) hb).trans (h.cells j u hu),
    fun j hj => ⟨by rw [World.cell?_of_block (w := w) (a := ⟨g, j, none⟩) hb]; exact (h.room j hj).1, by rw [World.frozen?_of_block (w := w) (a := ⟨g, j, none⟩) hb]; exact (h.room j hj).2⟩⟩
theorem Row.alloc {w : World} {base g n cap : Nat} {xs : List Value} (h : Row w base g n cap xs) (o : Obj) : Row (w.alloc o) base g n cap xs :=
  h.same (Below.heap_alloc w o g h.hi) (by simp)
theorem Row.of_block {w : World} {base g : Nat} {cs : Array Value} {t : TypeId} {n : Nat} (hg : w.heap[g]? = some (.cells cs t (0, 0))) (hb : base ≤ g) (hn : n ≤ cs.size) (hm : cs.size ≤ maxLen) : Row w base g n cs.size (cs.toList.take n) := by
  refine ⟨hb, (Array.getElem?_eq_some_iff.1 hg).1, by simp; omega, hn, hm, fun j u hu => ?_, fun j hj => ⟨?_, frozen_of_row w g j cs t hg⟩⟩
  · rw [cell_of_row w g j cs t (0, 0) hg]
    rw [List.getElem?_take] at hu
    split at hu
    · simpa using hu
    · cases hu
  · rw [cell_of_row w g j cs t (0, 0) hg, Array.getElem?_eq_getElem hj]; rfl
theorem Row.of_owns {w : World} {base : Nat} {e : TypeId} {g n cap : Nat} {xs : List Value} (h : w.ownsRow base e 1 (.slice (some ⟨g, 0, none⟩) n cap) n xs) : Row w base g n cap xs := by
  rcases h.2 with ⟨h0, _⟩ | ⟨g', cap', cur, hv, hbg, hg, hnc, hcm, hcs, htake⟩
  · cases h0
  · obtain ⟨rfl, rfl⟩ : g = g' ∧ cap = cap' := by simpa using hv
    have := Row.of_block (n := n) hg hbg (by omega) (by omega)
    rw [Nat.mul_one] at hcs htake
    rwa [htake, hcs] at this
theorem Row.cell {w : World} {base g n cap : Nat} {k : IntKind} {xs : List Int} (h : Row w base g n cap (xs.map (Value.int k))) (j : Nat) (hj : j < n) : w.cell? ⟨g, j, none⟩ = some (.int k (lk xs j)) := by
  have hl := h.len
  rw [List.length_map] at hl
  refine h.cells j _ ?_
  unfold lk
  rw [List.getElem?_map, List.getElem?_eq_getElem (by omega), List.getD_eq_getElem?_getD, List.getElem?_eq_getElem (by omega)]
  rfl
theorem Row.set {w : World} {base g n cap : Nat} {xs : List Value} (h : Row w base g n cap xs) (i : Nat) (hi : i < n) (v : Value) : Row (w.setCell ⟨g, i, none⟩ v) base g n cap (xs.set i v) := by
  have hl := h.len
  have hn := h.le
  obtain ⟨u0, hu0⟩ := Option.isSome_iff_exists.1 (h.room i (by omega)).1
  have hsame : (w.setCell ⟨g, i, none⟩ v).cell? ⟨g, i, none⟩ = some v := World.cell?_setCell_same _ _ _ hu0
  refine ⟨h.lo, by simpa using h.hi, by simpa using hl, hn, h.max, fun j u hu => ?_, fun j hj => ⟨?_, ?_⟩⟩
  · by_cases e : i = j
    · subst e
      rw [List.getElem?_set_self (by omega)] at hu
      rw [hsame, ← hu]
    · rw [List.getElem?_set_ne e] at hu
      rw [World.cell?_setCell_other _ _ _ _ (fun he => e (congrArg Addr.off he))]
      exact h.cells j u hu
  · by_cases e : i = j
    · subst e; rw [hsame]; rfl
    · rw [World.cell?_setCell_other _ _ _ _ (fun he => e (congrArg Addr.off he))]; exact (h.room j hj).1
  · rw [World.frozen?_setCell]; exact (h.room j hj).2
theorem setCells_tape (b : Nat) : ∀ (vs : List Value) (o : Nat) (w : World), (w.setCells b o vs).tape = w.tape
  | [], _, _ => rfl
  | v :: r, o, w => by rw [World.setCells, setCells_tape b r]; rfl
theorem setCells_size (b : Nat) : ∀ (vs : List Value) (o : Nat) (w : World), (w.setCells b o vs).heap.size = w.heap.size
  | [], _, _ => rfl
  | v :: r, o, w => by rw [World.setCells, setCells_size b r]; simp
theorem setCells_grown (w : World) (b o : Nat) (vs : List Value) : w.grownBy (w.setCells b o vs) (some b) :=
  ⟨World.os_setCells w b o vs, setCells_tape b vs o w, World.output_setCells w b o vs, by rw [setCells_size]; exact Nat.le_refl _, fun k hk hne => World.heap_setCells_other w b o vs hk (fun e => hne (by rw [e]))⟩
theorem run_append_row {P : Program} (w : World) (t ty : TypeId) (base : Nat) (e : TypeId) (i : TypeInfo) (z : Value) (bytes : Nat) (ht : P.underlying t = some (.slice e)) (hi : P.info? e = some i) (hz : i.zero = some z)
    (hsize : i.size = 1) (hby : i.bytes = bytes) (hzs : z.cells.size = 1)
    (g n cap : Nat) (xs : List Value) (hown : Row w base g n cap xs)
    (ad : Addr) (m c : Nat) (news : List Value) (hl : news.length = m) (hnews : ∀ j u, news[j]? = some u → w.cell? (ad.add j) = some u) (h1 : ∀ u ∈ news, u.oneCell' = true)
    (h63 : n + m ≤ maxLen) (hbytes : (n + m) * bytes ≤ 140737488355328) (hbase : base ≤ w.heap.size) (H : Nat) (hH : w.heap.size = H) :
    ∃ g' cap' w', (Builtin.append_ #[t, t] ty #[.slice (some ⟨g, 0, none⟩) n cap, .slice (some ad) m c]).run P w = .ok (.slice (some ⟨g', 0, none⟩) (n + m) cap') w' ∧
      Row w' base g' (n + m) cap' (xs ++ news) ∧ w.grownBy w' (some g) ∧ (g' = g ∨ g' = H) ∧ (∀ j u, xs[j]? = some u → w'.cell? ⟨g, j, none⟩ = some u) := by
  have hlx := hown.len
  by_cases hroom : n + m ≤ cap
  · have hr := run_append_room_cells (P := P) w t ty e i ht hi g 0 n cap ad m c news (by rw [hsize, hl]; omega) hnews h1 hroom
      (fun j hj => by rw [hsize]; exact (hown.room _ (by omega)).1) (fun j hj => by rw [hsize]; exact (hown.room _ (by omega)).2)
    rw [hsize, Nat.zero_add, Nat.mul_one] at hr
    have hk : ∀ j u, xs[j]? = some u → (w.setCells g n news).cell? ⟨g, j, none⟩ = some u := fun j u hu => by
      have hj : j < xs.length := (List.getElem?_eq_some_iff.1 hu).1
      rw [World.cell?_setCells_out g news n w ⟨g, j, none⟩ (fun _ _ => .inl (by show j < n; omega))]
      exact hown.cells j u hu
    refine ⟨g, cap, _, hr, ⟨hown.lo, by rw [setCells_size]; exact hown.hi, by rw [List.length_append]; omega, hroom, hown.max, fun j u hu => ?_, fun j hj => ?_⟩, setCells_grown w g n news, .inl rfl, hk⟩
    · by_cases hj : j < xs.length
      · rw [List.getElem?_append_left hj] at hu; exact hk j u hu
      · rw [List.getElem?_append_right (by omega)] at hu
        have hj2 : j - xs.length < news.length := (List.getElem?_eq_some_iff.1 hu).1
        have := World.cell?_setCells_in g news n w (fun q hq => (hown.room _ (by omega)).1) (j - xs.length) hj2
        rw [show n + (j - xs.length) = j by omega] at this
        rw [this, ← hu, List.getElem?_eq_getElem hj2]
    · exact ⟨World.isSome_setCells g news n w _ (hown.room j hj).1, by rw [World.frozen?_setCells]; exact (hown.room j hj).2⟩
  · have holds : ∀ j u, xs[j]? = some u → w.cell? ((⟨g, 0, none⟩ : Addr).add j) = some u := fun j u hu => by rw [Addr.add_mid, Nat.zero_add]; exact hown.cells j u hu
    have hr := run_append_grow (P := P) w t ty e i z ht hi hz ⟨g, 0, none⟩ n cap xs (by rw [hsize]; omega) holds ad m c news (by rw [hsize]; omega) hnews (by omega) (by simp only [maxLen] at h63; omega) (growslice_fits (by omega) (by rw [hby]; exact hbytes))
    have hge := grownCap_ge w (n + m) cap e
    have hcm : grownCap w (n + m) cap e ≤ maxLen := grownCap_le_maxLen w (n + m) cap e h63
    have hsz : (xs.toArray ++ news.toArray ++ Builtin.zeroCells z.cells (grownCap w (n + m) cap e - (n + m))).size = grownCap w (n + m) cap e := by
      simp only [Array.size_append, List.size_toArray, size_zeroCells, hzs]; omega
    have hblk := Row.of_block (w := w.drew.alloc (.cells (xs.toArray ++ news.toArray ++ Builtin.zeroCells z.cells (grownCap w (n + m) cap e - (n + m))) e)) (base := base) (g := w.heap.size) (n := n + m) (heap_alloc_new w.drew _) hbase (by rw [hsz]; exact hge) (by rw [hsz]; exact hcm)
    rw [hsz] at hblk
    have htk : (xs.toArray ++ news.toArray ++ Builtin.zeroCells z.cells (grownCap w (n + m) cap e - (n + m))).toList.take (n + m) = xs ++ news := by
      simp only [Array.toList_append]
      rw [List.take_append_of_le_length (by simp; omega), List.take_of_length_le (by simp; omega)]
    rw [htk] at hblk
    refine ⟨w.heap.size, _, _, hr, hblk, ⟨rfl, rfl, rfl, by simp, fun k hk _ => heap_alloc_old w.drew _ hk⟩, .inr hH, fun j u hu => ?_⟩
    rw [World.cell?_of_block (w := w) (a := ⟨g, j, none⟩) (heap_alloc_old w.drew _ hown.hi)]
    exact hown.cells j u hu
section
variable {P : Program} {w : World}
theorem wp_append_row {o : Oper} {a : Act} {K : Act → World → Prop} {Q : Exit → Act → World → Prop} (s x : Operand) (t : TypeId)
    (ho : o.op = .call { callee := .builtin .append, args := #[s, x], argTypes := #[t, t] })
    (base : Nat) (e : TypeId) (i : TypeInfo) (z : Value) (bytes : Nat) (ht : P.underlying t = some (.slice e)) (hi : P.info? e = some i) (hz : i.zero = some z)
    (hsize : i.size = 1) (hby : i.bytes = bytes) (hzs : z.cells.size = 1)
    (g n cap : Nat) (xs : List Value) (hs : a.eval s = .slice (some ⟨g, 0, none⟩) n cap) (hown : Row w base g n cap xs)
    (ad : Addr) (m c : Nat) (news : List Value) (hx : a.eval x = .slice (some ad) m c) (hl : news.length = m) (hnews : ∀ j u, news[j]? = some u → w.cell? (ad.add j) = some u) (h1 : ∀ u ∈ news, u.oneCell' = true)
    (h63 : n + m ≤ maxLen) (hbytes : (n + m) * bytes ≤ 140737488355328) (hbase : base ≤ w.heap.size) (H : Nat) (hH : w.heap.size = H)
    (h : ∀ g' cap' w', Row w' base g' (n + m) cap' (xs ++ news) → w.grownBy w' (some g) → (g' = g ∨ g' = H) → (∀ j u, xs[j]? = some u → w'.cell? ⟨g, j, none⟩ = some u) → K (a.put o.dst (.slice (some ⟨g', 0, none⟩) (n + m) cap')) w') : o.wp P a w K Q := by
  obtain ⟨g', cap', w', hr, h2, h3, h4, h5⟩ := run_append_row (P := P) w t o.type base e i z bytes ht hi hz hsize hby hzs g n cap xs hown ad m c news hl hnews h1 h63 hbytes hbase H hH
  unfold Oper.wp execOp
  simp only [ho, resolve, invoke, builtin, Sem.run_bind, Sem.run_pure, Result.andThen_ok, List.map_toArray, List.map_cons, List.map_nil, hs, hx, hr]
  exact h g' cap' w' h2 h3 h4 h5
theorem wpList_append_row {ops : Array Oper} {rest : List Oper} {o : Oper} {a : Act} {Q : Exit → Act → World → Prop} (hgd : o.guard = none) (s x : Operand) (t : TypeId)
    (ho : o.op = .call { callee := .builtin .append, args := #[s, x], argTypes := #[t, t] })
    (base : Nat) (e : TypeId) (i : TypeInfo) (z : Value) (bytes : Nat) (ht : P.underlying t = some (.slice e)) (hi : P.info? e = some i) (hz : i.zero = some z)
    (hsize : i.size = 1) (hby : i.bytes = bytes) (hzs : z.cells.size = 1)
    (g n cap : Nat) (xs : List Value) (hs : a.eval s = .slice (some ⟨g, 0, none⟩) n cap) (hown : Row w base g n cap xs)
    (ad : Addr) (m c : Nat) (news : List Value) (hx : a.eval x = .slice (some ad) m c) (hl : news.length = m) (hnews : ∀ j u, news[j]? = some u → w.cell? (ad.add j) = some u) (h1 : ∀ u ∈ news, u.oneCell' = true)
    (h63 : n + m ≤ maxLen) (hbytes : (n + m) * bytes ≤ 140737488355328) (hbase : base ≤ w.heap.size) (H : Nat) (hH : w.heap.size = H)
    (h : ∀ g' cap' w', Row w' base g' (n + m) cap' (xs ++ news) → w.grownBy w' (some g) → (g' = g ∨ g' = H) → (∀ j u, xs[j]? = some u → w'.cell? ⟨g, j, none⟩ = some u) → wpList P ops Q rest (a.put o.dst (.slice (some ⟨g', 0, none⟩) (n + m) cap')) w') : wpList P ops Q (o :: rest) a w :=
  wpList_plain hgd fun _ hK => wp_append_row s x t ho base e i z bytes ht hi hz hsize hby hzs g n cap xs hs hown ad m c news hx hl hnews h1 h63 hbytes hbase H hH fun g' cap' w' h2 h3 h4 h5 => hK _ _ (h g' cap' w' h2 h3 h4 h5)
end
theorem below_setCells {B : Nat} {a w : World} (h : Below B a w) {g : Nat} (hg : B ≤ g) (o : Nat) (vs : List Value) : Below B a (w.setCells g o vs) :=
  h.trans ⟨World.os_setCells w g o vs, setCells_tape g vs o w, World.output_setCells w g o vs, by rw [setCells_size]; exact Nat.le_refl _, fun k hk => by
    rcases Nat.lt_or_ge k w.heap.size with hlt | hge
    · exact World.heap_setCells_other w g o vs hlt (by omega)
    · rw [Array.getElem?_eq_none hge, Array.getElem?_eq_none (by rw [setCells_size]; exact hge)]⟩
theorem results_mid {P : Program} {fn : Func} {p : Tmp} {ty : TypeId} (h : fn.results = #[.cell p ty]) (tmps : Array Value) (w : World) (g o : Nat) (cs : List Value) (d : TypeDesc)
    (hp : tmps.getD p undef = .pointer (some ⟨g, o, none⟩)) (hc : w.rangeAt g o cs)
    (hu : P.underlying ty = some d) (hd : d.isRow = true) (hi : (P.info? ty).map (·.size) = some cs.length) :
    (results fn tmps).run P w = .ok (.agg cs.toArray) w := by
  have hp' : tmps[p]?.getD undef = .pointer (some ⟨g, o, none⟩) := by simpa using hp
  simp [results, h, hp', asAddr, run_loadVar_mid w g o ty cs d hc hu hd hi]
end Go.Proofs.YtdaobioomoajfaaGreat
namespace Go.Proofs.YtdaobioomoajfaaGreat
def kTab : List Int := [1116352408, 1899447441, 3049323471, 3921009573, 961987163, 1508970993, 2453635748, 2870763221, 3624381080, 310598401, 607225278, 1426881987, 1925078388, 2162078206, 2614888103, 3248222580, 3835390401, 4022224774, 264347078, 604807628, 770255983, 1249150122, 1555081692, 1996064986, 2554220882, 2821834349, 2952996808, 3210313671, 3336571891, 3584528711, 113926993, 338241895, 666307205, 773529912, 1294757372, 1396182291, 1695183700, 1986661051, 2177026350, 2456956037, 2730485921, 2820302411, 3259730800, 3345764771, 3516065817, 3600352804, 4094571909, 275423344, 430227734, 506948616, 659060556, 883997877, 958139571, 1322822218, 1537002063, 1747873779, 1955562222, 2024104815, 2227730452, 2361852424, 2428436474, 2756734187, 3204031479, 3329325298]
def h0L : List Int := [1779033703, 3144134277, 1013904242, 2773480762, 1359893119, 2600822924, 528734635, 1541459225]
def byt (s : ByteArray) : List Int := s.data.toList.map (fun b => (b.toNat : Int))
def be8 (n : Int) : List Int := [n / 72057594037927936 % 256, n / 281474976710656 % 256, n / 1099511627776 % 256, n / 4294967296 % 256, n / 16777216 % 256, n / 65536 % 256, n / 256 % 256, n % 256]
def beAt (n : Int) (j : Nat) : Int := n / 2 ^ (8 * (7 - j)) % 256
theorem be8_take (n : Int) (j : Nat) (h : j < 8) : (be8 n).take (j + 1) = (be8 n).take j ++ [beAt n j] := by
  match j, h with
  | 0, _ => rfl
  | 1, _ => rfl
  | 2, _ => rfl
  | 3, _ => rfl
  | 4, _ => rfl
  | 5, _ => rfl
  | 6, _ => rfl
  | 7, _ => simp [be8, beAt]
def be4 (n : Int) : List Int := [n / 16777216 % 256, n / 65536 % 256, n / 256 % 256, n % 256]
theorem byt_length (s : ByteArray) : (byt s).length = s.size := by simp [byt]
def stateTo (m : List Int) : Nat → List Int
  | 0 => h0L
  | k + 1 => blockF kTab (stateTo m k) (wsTo m (64 * k) 64)
def digTo (h : List Int) : Nat → List Int
  | 0 => []
  | i + 1 => digTo h i ++ be4 (lk h i)
theorem digTo_length (h : List Int) : ∀ i, (digTo h i).length = 4 * i
  | 0 => rfl
  | i + 1 => by rw [digTo, List.length_append, digTo_length h i]; simp [be4]; omega
theorem byt_lt (s : ByteArray) : ∀ x ∈ byt s, 0 ≤ x ∧ x < 256 := by
  intro x hx
  simp only [byt, List.mem_map] at hx
  obtain ⟨b, _, rfl⟩ := hx
  have := b.toNat_lt
  omega
theorem be8_lt (n : Int) : ∀ x ∈ be8 n, 0 ≤ x ∧ x < 256 := by
  intro x hx
  simp only [be8, List.mem_cons, List.not_mem_nil, or_false] at hx
  rcases hx with rfl | rfl | rfl | rfl | rfl | rfl | rfl | rfl <;> omega
def beTo (n : Int) : Nat → List Int
  | 0 => []
  | j + 1 => n / 256 ^ j % 256 :: beTo n j
theorem set_mid (k j : Nat) (h : j < k) (l : List Int) (x : Int) : (List.replicate (k - j) (0 : Int) ++ l).set (k - 1 - j) x = List.replicate (k - (j + 1)) 0 ++ x :: l := by
  obtain ⟨q, rfl⟩ : ∃ q, k = q + 1 + j := ⟨k - 1 - j, by omega⟩
  rw [show q + 1 + j - j = q + 1 by omega, show q + 1 + j - 1 - j = q by omega, show q + 1 + j - (j + 1) = q by omega, List.replicate_succ', List.append_assoc, List.set_append_right _ _ (by simp)]
  simp
theorem beTo_length (n : Int) : ∀ j, (beTo n j).length = j
  | 0 => rfl
  | j + 1 => by rw [beTo, List.length_cons, beTo_length n j]
theorem beTo8 (n : Int) : beTo n 8 = be8 n := by simp [beTo, be8]
end Go.Proofs.YtdaobioomoajfaaGreat
namespace Go.Proofs.YtdaobioomoajfaaGreat
theorem or_add (k : Nat) (a b : Int) (ha : 0 ≤ a) (ha1 : a < 4294967296) (hb : 0 ≤ b) (hb1 : b < 4294967296) (hk : a % 2 ^ k = 0) (hbk : b < 2 ^ k) : bits BinOp.or IntKind.u32 a b = a + b := by
  rw [u32_or a b ha ha1 hb hb1, nat_join k a.toNat b.toNat]
  · omega
  · have : ((a.toNat % 2 ^ k : Nat) : Int) = 0 := by
      rw [Int.natCast_emod, Int.toNat_of_nonneg ha]; simpa using hk
    omega
  · have : ((b.toNat : Nat) : Int) < ((2 ^ k : Nat) : Int) := by rw [Int.toNat_of_nonneg hb]; simpa using hbk
    omega
end Go.Proofs.YtdaobioomoajfaaGreat
namespace Go.Proofs.YtdaobioomoajfaaGreat
theorem byt_str (l : List Int) (h : ∀ x ∈ l, 0 ≤ x ∧ x < 256) : byt (strOfNums l) = l := by
  rw [byt, strOfNums_data, List.map_map]
  conv => rhs; rw [← List.map_id l]
  refine List.map_congr_left (fun x hx => ?_)
  have := h x hx
  simp only [Function.comp, id, UInt8.toNat_ofNat']
  omega
end Go.Proofs.YtdaobioomoajfaaGreat
