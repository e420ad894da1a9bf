import Derived.Below
namespace Go.Proofs.YtenggagjgmonoaaDoor
/-- what a message, a tag and a size must be -/
def okM (msg tag : ByteArray) (n : Int) : Prop := 1 ≤ tag.size ∧ tag.size ≤ 255 ∧ 1 ≤ n ∧ n ≤ 8160 ∧ msg.size ≤ 65535
end Go.Proofs.YtenggagjgmonoaaDoor
