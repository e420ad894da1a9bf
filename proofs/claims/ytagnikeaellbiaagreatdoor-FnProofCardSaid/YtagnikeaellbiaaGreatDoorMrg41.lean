import Derived.Test.YtagnikeaellbiaaGreatDoorMrg10
import Derived.Test.YtagnikeaellbiaaGreatDoorMrg1
import Derived.Test.YtagnikeaellbiaaGreatDoorMrg40
import Derived.Test.YtagnikeaellbiaaGreatDoorMrg26
import Derived.Test.YtagnikeaellbiaaGreatDoorMrg28
namespace Go.Proofs.YtagnikeaellbiaaGreatDoor
set_option linter.unusedVariables false

theorem toNat_byte (n : Nat) (k : Nat) : ((n : Int) / (k : Int) % 256).toNat = n / k % 256 := by
  rw [← Int.natCast_ediv]
  omega
theorem dig (m q : Nat) (h : q = m / 256) : q * 256 + m % 256 = m := by omega
theorem numL_be8 (n : Nat) (h : n < 18446744073709551616) : numL (be8 (n : Int)) = n := by
  have e0 := toNat_byte n 72057594037927936
  have e1 := toNat_byte n 281474976710656
  have e2 := toNat_byte n 1099511627776
  have e3 := toNat_byte n 4294967296
  have e4 := toNat_byte n 16777216
  have e5 := toNat_byte n 65536
  have e6 := toNat_byte n 256
  have e7 : ((n : Int) % 256).toNat = n % 256 := by omega
  have f0 : n / 72057594037927936 % 256 = n / 72057594037927936 := by omega
  have f1 := dig (n / 281474976710656) (n / 72057594037927936) (by omega)
  have f2 := dig (n / 1099511627776) (n / 281474976710656) (by omega)
  have f3 := dig (n / 4294967296) (n / 1099511627776) (by omega)
  have f4 := dig (n / 16777216) (n / 4294967296) (by omega)
  have f5 := dig (n / 65536) (n / 16777216) (by omega)
  have f6 := dig (n / 256) (n / 65536) (by omega)
  have f7 := dig n (n / 256) rfl
  have e : numL (be8 (n : Int)) = (((((((0 * 256 + n / 72057594037927936 % 256) * 256 + n / 281474976710656 % 256) * 256 + n / 1099511627776 % 256) * 256 + n / 4294967296 % 256) * 256 + n / 16777216 % 256) * 256 + n / 65536 % 256) * 256 + n / 256 % 256) * 256 + n % 256 := by
    rw [← e0, ← e1, ← e2, ← e3, ← e4, ← e5, ← e6, ← e7]; rfl
  rw [e, f0, Nat.zero_mul, Nat.zero_add, f1, f2, f3, f4, f5, f6, f7]
theorem be8_numL (a b c d e f g h : Int) (ha : 0 ≤ a ∧ a < 256) (hb : 0 ≤ b ∧ b < 256) (hc : 0 ≤ c ∧ c < 256) (hd : 0 ≤ d ∧ d < 256) (he : 0 ≤ e ∧ e < 256) (hf : 0 ≤ f ∧ f < 256) (hg : 0 ≤ g ∧ g < 256) (hh : 0 ≤ h ∧ h < 256) :
    be8 ((numL [a, b, c, d, e, f, g, h] : Nat) : Int) = [a, b, c, d, e, f, g, h] := by
  have e1 : ((numL [a, b, c, d, e, f, g, h] : Nat) : Int) = ((((((a * 256 + b) * 256 + c) * 256 + d) * 256 + e) * 256 + f) * 256 + g) * 256 + h := by
    simp only [numL, List.foldl_cons, List.foldl_nil]
    omega
  rw [e1]
  simp only [be8, List.cons.injEq, and_true]
  refine ⟨?_, ?_, ?_, ?_, ?_, ?_, ?_, ?_⟩ <;> omega
theorem byt_inj {s t : ByteArray} (h : byt s = byt t) : s = t := by
  apply ByteArray.ext
  apply Array.ext'
  have h2 : s.data.toList.map (fun b => ((b.toNat : Nat) : Int)) = t.data.toList.map (fun b => ((b.toNat : Nat) : Int)) := by simpa [byt] using h
  exact (List.map_inj_right (fun a b hab => UInt8.toNat_inj.1 (Int.ofNat_inj.1 hab))).1 h2
/-- a text of eight bytes is that of its number alone -/
theorem str8 (s : ByteArray) (hs : s.size = 8) (n : Nat) (hn : n < 18446744073709551616) : strOfNums (be8 (n : Int)) = s ↔ n = numL (byt s) := by
  constructor
  · intro h
    rw [← h, byt_str _ (be8_lt _), numL_be8 n hn]
  · intro h
    apply byt_inj
    rw [byt_str _ (be8_lt _), h]
    have hl := byt_length s
    have hb := byt_lt s
    rw [hs] at hl
    generalize byt s = l at *
    match l, hl with
    | [a, b, c, d, e, f, g, k], _ =>
      exact be8_numL a b c d e f g k (hb a (by simp)) (hb b (by simp)) (hb c (by simp)) (hb d (by simp)) (hb e (by simp)) (hb f (by simp)) (hb g (by simp)) (hb k (by simp))
end Go.Proofs.YtagnikeaellbiaaGreatDoor

/-
  The program's GetProof gives back what PutProof has put.
-/
namespace Go.Proofs.YtagnikeaellbiaaGreatDoor
open Go.RowKit
set_option linter.unusedVariables false
theorem scaI_put (n : Nat) (hn : n < 2305843010818082053) (w : World) :
    Calls Tryz.prog 44 #[.string (strOfNums (be8 (n : Int)))] w fun e w' => e = .returned (.tuple #[.int .u64 (n : Int), .bool true]) ∧ Below w.heap.size w w' := by
  have h8 : (strOfNums (be8 (n : Int))).size = 8 := by rw [strOfNums_size]; rfl
  have L := fun w => wdI_any (strOfNums (be8 (n : Int))) w h8
  rw [byt_str _ (be8_lt _), numL_be8 n (by omega)] at L
  exact scaI_two _ _ _ _ w (by omega) L (fun w => exN_less _ w (by omega))
theorem getput (c s : Nat) (hc : c < 2305843010818082053) (hs : s < 2305843010818082053) (w : World) :
    Calls Tryz.prog 24 #[.string (strOfNums (be8 (c : Int)) ++ strOfNums (be8 (s : Int)))] w fun e w' => e = .returned (.tuple #[.agg #[.int .u64 (c : Int), .int .u64 (s : Int)], .bool true]) ∧ Below w.heap.size w w' := by
  have h1 : (strOfNums (be8 (c : Int))).size = 8 := by rw [strOfNums_size]; rfl
  have h2 : (strOfNums (be8 (s : Int))).size = 8 := by rw [strOfNums_size]; rfl
  have h3 : (strOfNums (be8 (c : Int)) ++ strOfNums (be8 (s : Int))).size = 16 := by rw [ByteArray.size_append, h1, h2]
  have e1 : (strOfNums (be8 (c : Int)) ++ strOfNums (be8 (s : Int))).extract 0 8 = strOfNums (be8 (c : Int)) := ByteArray.extract_append_eq_left h1.symm
  have e2 : (strOfNums (be8 (c : Int)) ++ strOfNums (be8 (s : Int))).extract 8 16 = strOfNums (be8 (s : Int)) := ByteArray.extract_append_eq_right h1.symm (by rw [h1, h2])
  exact getF_of _ _ _ (c : Int) (s : Int) true true w (by omega) e1 e2 (by rw [h3]; exact e2) (scaI_put c hc) (scaI_put s hs)
end Go.Proofs.YtagnikeaellbiaaGreatDoor

namespace Go.Proofs.YtagnikeaellbiaaGreatDoor
open Go.RowKit M
set_option linter.unusedVariables false

set_option maxRecDepth 100000 in
set_option maxHeartbeats 2000000 in
theorem timI_of (k x y p q x4 y4 : Int) (c pb c4 ok : Bool) (w : World)
    (F1 : ∀ w, Calls Tryz.prog 36 #[.agg #[.int .u64 x, .int .u64 y, .bool c]] w fun e w' => e = .returned (.tuple #[.agg #[.int .u64 p, .int .u64 q, .bool pb], .bool ok]) ∧ Below w.heap.size w w')
    (Tm : ∀ w, Calls Tryz.prog 46 #[.agg #[.int .u64 p, .int .u64 q, .bool pb], .int .u64 k] w fun e w' => e = .returned (.agg #[.int .u64 x4, .int .u64 y4, .bool c4]) ∧ Below w.heap.size w w') :
    Calls Tryz.prog 26 #[.int .u64 k, .agg #[.int .u64 x, .int .u64 y, .bool c]] w fun e w' => e = .returned (.agg #[.int .u64 x4, .int .u64 y4, .bool c4]) ∧ Below w.heap.size w w' := by
  have hfl := fldK
  obtain ⟨X, hX⟩ : ∃ X, X = (w.alloc (Obj.cells #[.int .u64 x, .int .u64 y, .bool c] 27)).alloc (Obj.cells #[.int .u64 0, .int .u64 0, .bool false] 27) := ⟨_, rfl⟩
  have hr : K3 X 27 (w.heap.size + 1) 0 0 false := by rw [hX]; exact (K3.new _ _ 0 0 false).at (by simp)
  have hb : Below w.heap.size w X := by rw [hX]; exact ((Below.refl _ w).alloc (Nat.le_refl _) _).alloc (by simp) _
  rw [hX] at hr hb
  clear hX
  go_enter Tryz.func26, Tryz.ntmps26
  go_wp2_with fail
  refine (F1 _).mono ?_
  rintro e w1 ⟨rfl, b1⟩
  replace hr := (hr.keep b1).alloc (Obj.cells #[.int .u64 p, .int .u64 q, .bool pb] 62)
  replace hb := keepB hb hb.size b1
  replace hb := hb.alloc hb.size (Obj.cells #[.int .u64 p, .int .u64 q, .bool pb] 62)
  clear b1 F1
  go_wp2_with fail
  refine (Tm _).mono ?_
  rintro e w3 ⟨rfl, b3⟩
  replace hr := hr.keep b3
  replace hb := keepB hb hb.size b3
  clear b3 Tm
  have c0 := hr.c0
  have c1 := hr.c1
  have c2 := hr.c2
  have f0 := hr.frz 0
  have f1 := hr.frz 1
  have f2 := hr.frz 2
  go_wp2
  exact bodyPost_ret (v := .agg #[.int .u64 x4, .int .u64 y4, .bool c4]) (pt_res (fn := Tryz.f26) (p := 4) Tryz.results26 _ rfl (hr.set _ _ _)) rfl ⟨rfl, set3_below hb (by omega)⟩

theorem timI_pt (k x y : Nat) (c : Bool) (w : World) (hk : k < 18446744073709551616) :
    Calls Tryz.prog 26 #[.int .u64 k, .agg #[.int .u64 x, .int .u64 y, .bool c]] w fun e w' => e = .returned (ptW (nt k (asPt x y c))) ∧ Below w.heap.size w w' := by
  have N := ctmV (asPt_on x y c) k hk
  rw [ptW_eq, ptW_eq] at N
  rw [ptW_eq]
  exact timI_of _ _ _ _ _ _ _ _ _ _ _ w (fndW x y c) N
end Go.Proofs.YtagnikeaellbiaaGreatDoor
