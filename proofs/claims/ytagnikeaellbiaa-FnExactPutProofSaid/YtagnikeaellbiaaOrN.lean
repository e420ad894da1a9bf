import Derived.Test.YtagnikeaellbiaaChecked
import Derived.WalkKit
import Derived.ProofKit
import Derived.WalkSpells
import Derived.WalkLawsBesides
import Derived.Outline
import Derived.Lib.BitFns
import Derived.Lib.Mul64
import Derived.Laws.Bits64b
namespace Go.Proofs.Ytagnikeaellbiaa.Dv
/-- an 'or' of parts that do not meet -/
theorem or_add (h t s : Nat) (ht : t < 2 ^ s) : h * 2 ^ s ||| t = h * 2 ^ s + t := by
  rw [Nat.mul_comm, Nat.two_pow_add_eq_or_of_lt ht]
end Go.Proofs.Ytagnikeaellbiaa.Dv
namespace Go.Proofs.Ytagnikeaellbiaa
open Go.RowKit
theorem orN (a b : Nat) (ha : a < 18446744073709551616) (hb : b < 18446744073709551616) : bits .or .u64 (a : Int) (b : Int) = ((a ||| b : Nat) : Int) := bits_or_u64_nat a b ha hb
end Go.Proofs.Ytagnikeaellbiaa
