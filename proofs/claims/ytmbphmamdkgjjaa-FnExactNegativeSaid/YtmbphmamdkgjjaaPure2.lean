/-
  Plain functions, continued: the table, the bytes of a text, its padding, the whole hash.
-/
import Derived.Test.YtmbphmamdkgjjaaPure
namespace Go.Proofs.Ytmbphmamdkgjjaa
def kTab : List Int := [1116352408, 1899447441, 3049323471, 3921009573, 961987163, 1508970993, 2453635748, 2870763221, 3624381080, 310598401, 607225278, 1426881987, 1925078388, 2162078206, 2614888103, 3248222580, 3835390401, 4022224774, 264347078, 604807628, 770255983, 1249150122, 1555081692, 1996064986, 2554220882, 2821834349, 2952996808, 3210313671, 3336571891, 3584528711, 113926993, 338241895, 666307205, 773529912, 1294757372, 1396182291, 1695183700, 1986661051, 2177026350, 2456956037, 2730485921, 2820302411, 3259730800, 3345764771, 3516065817, 3600352804, 4094571909, 275423344, 430227734, 506948616, 659060556, 883997877, 958139571, 1322822218, 1537002063, 1747873779, 1955562222, 2024104815, 2227730452, 2361852424, 2428436474, 2756734187, 3204031479, 3329325298]
def h0L : List Int := [1779033703, 3144134277, 1013904242, 2773480762, 1359893119, 2600822924, 528734635, 1541459225]
/-- the bytes of a text as numbers -/
def byt (s : ByteArray) : List Int := s.data.toList.map (fun b => (b.toNat : Int))
/-- how many zeros stand behind the bit -/
def zeros (n : Nat) : Nat := (119 - n % 64) % 64
/-- eight bytes, the highest first -/
def be8 (n : Int) : List Int := [n / 72057594037927936 % 256, n / 281474976710656 % 256, n / 1099511627776 % 256, n / 4294967296 % 256, n / 16777216 % 256, n / 65536 % 256, n / 256 % 256, n % 256]
def beAt (n : Int) (j : Nat) : Int := n / 2 ^ (8 * (7 - j)) % 256
theorem be8_take (n : Int) (j : Nat) (h : j < 8) : (be8 n).take (j + 1) = (be8 n).take j ++ [beAt n j] := by
  match j, h with
  | 0, _ => rfl
  | 1, _ => rfl
  | 2, _ => rfl
  | 3, _ => rfl
  | 4, _ => rfl
  | 5, _ => rfl
  | 6, _ => rfl
  | 7, _ => simp [be8, beAt]
def be4 (n : Int) : List Int := [n / 16777216 % 256, n / 65536 % 256, n / 256 % 256, n % 256]
def padF (t : List Int) : List Int := t ++ [128] ++ List.replicate (zeros t.length) 0 ++ be8 (t.length * 8)
theorem byt_length (s : ByteArray) : (byt s).length = s.size := by simp [byt]
theorem padF_byt (s : ByteArray) : padF (byt s) = byt s ++ [128] ++ List.replicate (zeros s.size) 0 ++ be8 (s.size * 8) := by
  unfold padF; rw [byt_length]
def stateTo (m : List Int) : Nat → List Int
  | 0 => h0L
  | k + 1 => blockF kTab (stateTo m k) (wsTo m (64 * k) 64)
theorem u8_in (a : Int) (h0 : 0 ≤ a) (h1 : a < 256) : IntKind.u8.wrap a = a := by rw [IntKind.wrap_u8']; omega
def digTo (h : List Int) : Nat → List Int
  | 0 => []
  | i + 1 => digTo h i ++ be4 (lk h i)
def digest (h : List Int) : List Int := digTo h 8
theorem digTo_length (h : List Int) : ∀ i, (digTo h i).length = 4 * i
  | 0 => rfl
  | i + 1 => by rw [digTo, List.length_append, digTo_length h i]; simp [be4]; omega
theorem lk_block (ks h ws : List Int) : stOf (blockF ks h ws) = ⟨(lk h 0 + (rndTo (stOf h) ks ws 64).a) % 4294967296, (lk h 1 + (rndTo (stOf h) ks ws 64).b) % 4294967296, (lk h 2 + (rndTo (stOf h) ks ws 64).c) % 4294967296, (lk h 3 + (rndTo (stOf h) ks ws 64).d) % 4294967296,
   (lk h 4 + (rndTo (stOf h) ks ws 64).e) % 4294967296, (lk h 5 + (rndTo (stOf h) ks ws 64).f) % 4294967296, (lk h 6 + (rndTo (stOf h) ks ws 64).g) % 4294967296, (lk h 7 + (rndTo (stOf h) ks ws 64).z) % 4294967296⟩ := rfl
theorem w32_mod (x : Int) : w32 (x % 4294967296) := by unfold w32; omega
theorem stateTo_ok (m : List Int) : ∀ k, (stOf (stateTo m k)).ok
  | 0 => by rw [stateTo]; refine ⟨?_, ?_, ?_, ?_, ?_, ?_, ?_, ?_⟩ <;> (unfold w32; decide)
  | k + 1 => by
    rw [stateTo, lk_block]
    exact ⟨w32_mod _, w32_mod _, w32_mod _, w32_mod _, w32_mod _, w32_mod _, w32_mod _, w32_mod _⟩
theorem stateTo_length (m : List Int) : ∀ k, (stateTo m k).length = 8
  | 0 => rfl
  | _ + 1 => rfl
theorem padF_length (t : List Int) : (padF t).length = t.length + 9 + zeros t.length := by
  simp [padF, be8]; omega
theorem padF_mod (t : List Int) : (padF t).length % 64 = 0 := by
  rw [padF_length]; unfold zeros; omega
theorem lk_lt {l : List Int} (h : ∀ x ∈ l, 0 ≤ x ∧ x < 256) (i : Nat) : 0 ≤ lk l i ∧ lk l i < 256 := by
  unfold lk
  rw [List.getD_eq_getElem?_getD]
  cases hi : l[i]? with
  | none => simp
  | some x => simpa using h x (List.mem_of_getElem? hi)
theorem byt_lt (s : ByteArray) : ∀ x ∈ byt s, 0 ≤ x ∧ x < 256 := by
  intro x hx
  simp only [byt, List.mem_map] at hx
  obtain ⟨b, _, rfl⟩ := hx
  have := b.toNat_lt
  omega
theorem be8_lt (n : Int) : ∀ x ∈ be8 n, 0 ≤ x ∧ x < 256 := by
  intro x hx
  simp only [be8, List.mem_cons, List.not_mem_nil, or_false] at hx
  rcases hx with rfl | rfl | rfl | rfl | rfl | rfl | rfl | rfl <;> omega
theorem padF_lt {t : List Int} (h : ∀ x ∈ t, 0 ≤ x ∧ x < 256) : ∀ x ∈ padF t, 0 ≤ x ∧ x < 256 := by
  intro x hx
  simp only [padF, List.mem_append, List.mem_singleton, List.mem_replicate] at hx
  rcases hx with ((hx | rfl) | ⟨_, rfl⟩) | hx
  · exact h x hx
  · omega
  · omega
  · exact be8_lt _ x hx
def shaF (t : List Int) : List Int := digest (stateTo (padF t) ((padF t).length / 64))
/-- the lowest j bytes, the highest first -/
def beTo (n : Int) : Nat → List Int
  | 0 => []
  | j + 1 => n / 256 ^ j % 256 :: beTo n j
theorem set_mid (k j : Nat) (h : j < k) (l : List Int) (x : Int) : (List.replicate (k - j) (0 : Int) ++ l).set (k - 1 - j) x = List.replicate (k - (j + 1)) 0 ++ x :: l := by
  obtain ⟨q, rfl⟩ : ∃ q, k = q + 1 + j := ⟨k - 1 - j, by omega⟩
  rw [show q + 1 + j - j = q + 1 by omega, show q + 1 + j - 1 - j = q by omega, show q + 1 + j - (j + 1) = q by omega, List.replicate_succ', List.append_assoc, List.set_append_right _ _ (by simp)]
  simp
/-- the cells of a running hash -/
def rhL (st blk : List Int) (filled size : Int) : List Value := st.map (Value.int .u32) ++ blk.map (Value.int .u8) ++ [.int .i64 filled, .int .u64 size]
theorem beTo_length (n : Int) : ∀ j, (beTo n j).length = j
  | 0 => rfl
  | j + 1 => by rw [beTo, List.length_cons, beTo_length n j]
theorem beTo4 (n : Int) : beTo n 4 = be4 n := by simp [beTo, be4]
theorem beTo8 (n : Int) : beTo n 8 = be8 n := by simp [beTo, be8]
end Go.Proofs.Ytmbphmamdkgjjaa
