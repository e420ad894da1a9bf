import Derived.Test.YtjmhmajfkdglnaaDoorMrg1
/-
  Plain functions: the keyed hash.
-/
namespace Go.Proofs.YtjmhmajfkdglnaaDoor
def xorL (l : List Int) (m : Int) : List Int := l.map (fun x => bits BinOp.xor IntKind.u8 x m)
def keyL (k : List Int) : List Int := k ++ List.replicate (64 - k.length) 0
def kkL (key : List Int) : List Int := keyL (if 64 < key.length then shaF key else key)
def hmacF (key s : List Int) : List Int := shaF (xorL (kkL key) 92 ++ shaF (xorL (kkL key) 54 ++ s))
theorem bits8 (a m : Int) : 0 ≤ bits BinOp.xor IntKind.u8 a m ∧ bits BinOp.xor IntKind.u8 a m < 256 := by
  simp only [bits, IntKind.wrap_u8']; omega
theorem xorL_lt (l : List Int) (m : Int) : ∀ x ∈ xorL l m, 0 ≤ x ∧ x < 256 := by
  intro x hx
  simp only [xorL, List.mem_map] at hx
  obtain ⟨y, _, rfl⟩ := hx
  exact bits8 y m
theorem xorL_length (l : List Int) (m : Int) : (xorL l m).length = l.length := by simp [xorL]
theorem be4_lt (n : Int) : ∀ x ∈ be4 n, 0 ≤ x ∧ x < 256 := by
  intro x hx
  simp only [be4, List.mem_cons, List.not_mem_nil, or_false] at hx
  rcases hx with rfl | rfl | rfl | rfl <;> omega
theorem digTo_lt (h : List Int) : ∀ i, ∀ x ∈ digTo h i, 0 ≤ x ∧ x < 256
  | 0, x, hx => by simp [digTo] at hx
  | i + 1, x, hx => by
    rw [digTo, List.mem_append] at hx
    rcases hx with hx | hx
    · exact digTo_lt h i x hx
    · exact be4_lt _ x hx
theorem shaF_lt (t : List Int) : ∀ x ∈ shaF t, 0 ≤ x ∧ x < 256 := digTo_lt _ 8
theorem shaF_length (t : List Int) : (shaF t).length = 32 := digTo_length _ 8
theorem hmacF_lt (k t : List Int) : ∀ x ∈ hmacF k t, 0 ≤ x ∧ x < 256 := shaF_lt _
theorem hmacF_length (k t : List Int) : (hmacF k t).length = 32 := shaF_length _
theorem kkL_length (key : List Int) : (kkL key).length = 64 := by
  unfold kkL keyL
  rw [List.length_append, List.length_replicate]
  split
  · rw [shaF_length]
  · omega
theorem rep_lt (n : Nat) : ∀ x ∈ List.replicate n (0 : Int), 0 ≤ x ∧ x < 256 := by
  intro x hx; have := List.eq_of_mem_replicate hx; omega
theorem app_lt {a b : List Int} (ha : ∀ x ∈ a, 0 ≤ x ∧ x < 256) (hb : ∀ x ∈ b, 0 ≤ x ∧ x < 256) : ∀ x ∈ a ++ b, 0 ≤ x ∧ x < 256 := by
  intro x hx
  rw [List.mem_append] at hx
  rcases hx with h | h
  · exact ha x h
  · exact hb x h
theorem kkL_lt {key : List Int} (h : ∀ x ∈ key, 0 ≤ x ∧ x < 256) : ∀ x ∈ kkL key, 0 ≤ x ∧ x < 256 := by
  unfold kkL keyL
  split
  · exact app_lt (shaF_lt _) (rep_lt _)
  · exact app_lt h (rep_lt _)
theorem rep_add (a b : Nat) : strOfNums (List.replicate a 0) ++ strOfNums (List.replicate b 0) = strOfNums (List.replicate (a + b) 0) := by
  apply ByteArray.ext; simp [strOfNums]
theorem byt_size (s : ByteArray) (l : List Int) (h : byt s = l) : s.size = l.length := by rw [← h, byt_length]
end Go.Proofs.YtjmhmajfkdglnaaDoor

/-
  Plain functions: what is expanded.
-/
namespace Go.Proofs.YtjmhmajfkdglnaaDoor
def tTo (key info : List Int) : Nat → List Int
  | 0 => []
  | k + 1 => hmacF key (tTo key info k ++ info ++ [(k : Int) + 1])
def outTo (key info : List Int) : Nat → List Int
  | 0 => []
  | k + 1 => outTo key info k ++ tTo key info (k + 1)
theorem tTo_lt (key info : List Int) : ∀ k, ∀ x ∈ tTo key info k, 0 ≤ x ∧ x < 256
  | 0, x, h => by simp [tTo] at h
  | k + 1, x, h => hmacF_lt _ _ x h
theorem tTo_le (key info : List Int) (k : Nat) : (tTo key info k).length ≤ 32 := by
  cases k with
  | zero => simp [tTo]
  | succ k => rw [tTo, hmacF_length]; omega
theorem outTo_length (key info : List Int) : ∀ k, (outTo key info k).length = 32 * k
  | 0 => rfl
  | k + 1 => by rw [outTo, List.length_append, outTo_length key info k, tTo, hmacF_length]; omega
theorem outTo_lt (key info : List Int) : ∀ k, ∀ x ∈ outTo key info k, 0 ≤ x ∧ x < 256
  | 0, x, h => by simp [outTo] at h
  | k + 1, x, h => by
    rw [outTo, List.mem_append] at h
    rcases h with h | h
    · exact outTo_lt key info k x h
    · exact tTo_lt key info (k + 1) x h
def expF (key info : List Int) (n : Nat) : List Int := (outTo key info ((n + 31) / 32)).take n
theorem str_take (l : List Int) (n : Nat) : (strOfNums l).extract 0 n = strOfNums (l.take n) := by
  apply ByteArray.ext
  simp [strOfNums, List.map_take]
theorem str_append' (l r : List Int) : strOfNums l ++ strOfNums r = strOfNums (l ++ r) := by
  apply ByteArray.ext; simp [strOfNums]
theorem byt_one (k : Nat) (h : k < 255) : byt (strOfNums [(k : Int) + 1]) = [(k : Int) + 1] := byt_str _ (fun x hx => by simp at hx; omega)
end Go.Proofs.YtjmhmajfkdglnaaDoor
