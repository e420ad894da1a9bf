/-
  No cell of these rows narrows 'for every input' (looked for: loops, veiled, ifaces, maps, wideKeys, modest, calm, conditions, laid).
  DERIVED. THE GIVEN ROWS OF THIS SEAT. 6 by the template 'for every input the law returns true; each argument reads behind the call as it read before'; 0 by the template 'total and deterministic' (their statements: YtnfbfpegagcanaaTotals.lean).
  GIVEN WITH THE SEED: the statements are not yours to turn. If you find one false, say at which input.
  Laid BY PROGRAM, IN A SANDBOX (cutbox-rows.mjs): the forced cells as the released guide's own fill.sh prints them over the translation 918030a511adf2b1… (all of the seat's roots in one cut). By AI agents, Wed Nov 11 2026. No macro, syntax, notation, axiom, sorry.
-/
import Derived.Test.YtnfbfpegagcanaaChecked
import GoSem.Claim
import GoSem.ClaimJoined
import GoSem.ClaimMapViews
import Derived.JoinedTies
import Derived.KernelRfl
namespace Go.Proofs.Ytnfbfpegagcanaa
/- THE CELL 'sum', in the pinned program and in every row, IS THE sha256 OF THE DUMP (.gsa) THAT YtnfbfpegagcanaaProg.lean LOADS. Nothing in Lean hashes anything: it is a label: what it is worth is what the hold of that sum in a sandbox is worth. -/
noncomputable def Try.pinned : Pinned := { name := "ytnfbfpegagcanaa", sum := "918030a511adf2b14d8c66ce6adab86b739fae818fed09693821c98456e14d3e", checked := Try.checked }
namespace Rows
def none {H : Type} : Left H := { results := [], args := [] }

/-- 'laws.FnExactOnCurve': WHATEVER THE INPUT: true; the input reads as it did. -/
def fnExactOnCurveSpec : ChangeSpec := { name := "fnExactOnCurve", fn := fun _ => fun
  | [d] => { results := [.lit (.bool true)], args := [d] }
  | _ => none }
def fnExactOnCurveRow : OpenClaim := { program := "ytnfbfpegagcanaa", sum := "918030a511adf2b14d8c66ce6adab86b739fae818fed09693821c98456e14d3e", func := "loop.example/s02095/laws.FnExactOnCurve", spec := "fnExactOnCurve", unfollowed := true, recurses := true, named := ["math/bits.divideError", "math/bits.overflowError"], apart := false }
def FnExactOnCurveSaid : Prop := fnExactOnCurveRow.holds Try.pinned (OpenSpec.ofChange fnExactOnCurveSpec)

/-- ITS FALSE NEIGHBOUR: 'it returns false'. Refute it at one input. -/
def fnExactOnCurveWrong : ChangeSpec := { name := "fnExactOnCurve", fn := fun _ => fun
  | [d] => { results := [.lit (.bool false)], args := [d] }
  | _ => none }
def FnExactOnCurveWrongFalsely : Prop := fnExactOnCurveRow.holds Try.pinned (OpenSpec.ofChange fnExactOnCurveWrong)

/-- 'laws.FnExactNegative': WHATEVER THE INPUT: true; the input reads as it did. -/
def fnExactNegativeSpec : ChangeSpec := { name := "fnExactNegative", fn := fun _ => fun
  | [d] => { results := [.lit (.bool true)], args := [d] }
  | _ => none }
def fnExactNegativeRow : OpenClaim := { program := "ytnfbfpegagcanaa", sum := "918030a511adf2b14d8c66ce6adab86b739fae818fed09693821c98456e14d3e", func := "loop.example/s02095/laws.FnExactNegative", spec := "fnExactNegative", unfollowed := true, recurses := true, named := ["math/bits.divideError", "math/bits.overflowError"], apart := false }
def FnExactNegativeSaid : Prop := fnExactNegativeRow.holds Try.pinned (OpenSpec.ofChange fnExactNegativeSpec)

/-- ITS FALSE NEIGHBOUR: 'it returns false'. Refute it at one input. -/
def fnExactNegativeWrong : ChangeSpec := { name := "fnExactNegative", fn := fun _ => fun
  | [d] => { results := [.lit (.bool false)], args := [d] }
  | _ => none }
def FnExactNegativeWrongFalsely : Prop := fnExactNegativeRow.holds Try.pinned (OpenSpec.ofChange fnExactNegativeWrong)

/-- 'laws.FnExactAdd': WHATEVER THE INPUT: true; the input reads as it did. -/
def fnExactAddSpec : ChangeSpec := { name := "fnExactAdd", fn := fun _ => fun
  | [d1, d2] => { results := [.lit (.bool true)], args := [d1, d2] }
  | _ => none }
def fnExactAddRow : OpenClaim := { program := "ytnfbfpegagcanaa", sum := "918030a511adf2b14d8c66ce6adab86b739fae818fed09693821c98456e14d3e", func := "loop.example/s02095/laws.FnExactAdd", spec := "fnExactAdd", unfollowed := true, recurses := true, named := ["math/bits.divideError", "math/bits.overflowError"], apart := false }
def FnExactAddSaid : Prop := fnExactAddRow.holds Try.pinned (OpenSpec.ofChange fnExactAddSpec)

/-- ITS FALSE NEIGHBOUR: 'it returns false'. Refute it at one input. -/
def fnExactAddWrong : ChangeSpec := { name := "fnExactAdd", fn := fun _ => fun
  | [d1, d2] => { results := [.lit (.bool false)], args := [d1, d2] }
  | _ => none }
def FnExactAddWrongFalsely : Prop := fnExactAddRow.holds Try.pinned (OpenSpec.ofChange fnExactAddWrong)

/-- 'laws.FnExactTimes': WHATEVER THE INPUT: true; the input reads as it did. -/
def fnExactTimesSpec : ChangeSpec := { name := "fnExactTimes", fn := fun _ => fun
  | [d1, d2] => { results := [.lit (.bool true)], args := [d1, d2] }
  | _ => none }
def fnExactTimesRow : OpenClaim := { program := "ytnfbfpegagcanaa", sum := "918030a511adf2b14d8c66ce6adab86b739fae818fed09693821c98456e14d3e", func := "loop.example/s02095/laws.FnExactTimes", spec := "fnExactTimes", unfollowed := true, recurses := true, named := ["math/bits.divideError", "math/bits.overflowError"], apart := false }
def FnExactTimesSaid : Prop := fnExactTimesRow.holds Try.pinned (OpenSpec.ofChange fnExactTimesSpec)

/-- ITS FALSE NEIGHBOUR: 'it returns false'. Refute it at one input. -/
def fnExactTimesWrong : ChangeSpec := { name := "fnExactTimes", fn := fun _ => fun
  | [d1, d2] => { results := [.lit (.bool false)], args := [d1, d2] }
  | _ => none }
def FnExactTimesWrongFalsely : Prop := fnExactTimesRow.holds Try.pinned (OpenSpec.ofChange fnExactTimesWrong)

/-- 'laws.FnExactPutMessage': WHATEVER THE INPUT: true; the input reads as it did. -/
def fnExactPutMessageSpec : ChangeSpec := { name := "fnExactPutMessage", fn := fun _ => fun
  | [d] => { results := [.lit (.bool true)], args := [d] }
  | _ => none }
def fnExactPutMessageRow : OpenClaim := { program := "ytnfbfpegagcanaa", sum := "918030a511adf2b14d8c66ce6adab86b739fae818fed09693821c98456e14d3e", func := "loop.example/s02095/laws.FnExactPutMessage", spec := "fnExactPutMessage", unfollowed := true, recurses := true, apart := false }
def FnExactPutMessageSaid : Prop := fnExactPutMessageRow.holds Try.pinned (OpenSpec.ofChange fnExactPutMessageSpec)

/-- ITS FALSE NEIGHBOUR: 'it returns false'. Refute it at one input. -/
def fnExactPutMessageWrong : ChangeSpec := { name := "fnExactPutMessage", fn := fun _ => fun
  | [d] => { results := [.lit (.bool false)], args := [d] }
  | _ => none }
def FnExactPutMessageWrongFalsely : Prop := fnExactPutMessageRow.holds Try.pinned (OpenSpec.ofChange fnExactPutMessageWrong)

/-- 'laws.FnExactGetMessage': WHATEVER THE INPUT: true; the input reads as it did. -/
def fnExactGetMessageSpec : ChangeSpec := { name := "fnExactGetMessage", fn := fun _ => fun
  | [d] => { results := [.lit (.bool true)], args := [d] }
  | _ => none }
def fnExactGetMessageRow : OpenClaim := { program := "ytnfbfpegagcanaa", sum := "918030a511adf2b14d8c66ce6adab86b739fae818fed09693821c98456e14d3e", func := "loop.example/s02095/laws.FnExactGetMessage", spec := "fnExactGetMessage", unfollowed := true, recurses := true, apart := false }
def FnExactGetMessageSaid : Prop := fnExactGetMessageRow.holds Try.pinned (OpenSpec.ofChange fnExactGetMessageSpec)

/-- ITS FALSE NEIGHBOUR: 'it returns false'. Refute it at one input. -/
def fnExactGetMessageWrong : ChangeSpec := { name := "fnExactGetMessage", fn := fun _ => fun
  | [d] => { results := [.lit (.bool false)], args := [d] }
  | _ => none }
def FnExactGetMessageWrongFalsely : Prop := fnExactGetMessageRow.holds Try.pinned (OpenSpec.ofChange fnExactGetMessageWrong)

/- THE SECOND FORM. 'bulk': how many values and letters a reading holds, each counted each time it is reached (what is shared counts as often as it is met; a slice's spare places count too). A statement '..UptoSaid' is the law's where the arguments, and the package variables that the reading takes, are together of bulk at most 1048576: NARROWER than '..Said'. Prove '..Said' where nothing that the law and all that it calls make is longer than what came in: it says more and counts as full. Else prove '..UptoSaid'. A law counts once. -/
mutual
def uptoBulk {H : Type} : DataW H → Nat
  | .lit (.string bytes) => bytes.length + 1
  | .lit _ => 1
  | .nil => 1
  | .ptr d => uptoBulk d + 1
  | .slice elems spare => uptoBulkAll elems + uptoBulkAll spare + 1
  | .agg parts => uptoBulkAll parts + 1
  | .iface _ d => uptoBulk d + 1
  | .map entries => uptoBulkEntries entries + 1
  | .held _ => 1
def uptoBulkAll {H : Type} : List (DataW H) → Nat
  | [] => 0
  | d :: r => uptoBulk d + uptoBulkAll r
def uptoBulkEntries {H : Type} : List (Lit × DataW H) → Nat
  | [] => 0
  | x :: r => uptoBulkEntry x + uptoBulkEntries r
def uptoBulkEntry {H : Type} : Lit × DataW H → Nat
  | (.string bytes, d) => bytes.length + uptoBulk d + 1
  | (_, d) => uptoBulk d + 1
 end
def uptoSmall : (H : Type) → List (DataW H) → Bool := fun _ ds => decide (uptoBulkAll ds ≤ 1048576)
def OpenSpec.upto (s : _root_.Go.ChangeSpec) : _root_.Go.OpenSpec := { _root_.Go.OpenSpec.ofChange s with cond := some uptoSmall }

/-- 'laws.FnExactOnCurve', WHERE WHAT IT READS IS OF BULK AT MOST 1048576: true; the input reads as it did. -/
def fnExactOnCurveUptoRow : OpenClaim := { program := "ytnfbfpegagcanaa", sum := "918030a511adf2b14d8c66ce6adab86b739fae818fed09693821c98456e14d3e", func := "loop.example/s02095/laws.FnExactOnCurve", spec := "fnExactOnCurve", unfollowed := true, recurses := true, named := ["math/bits.divideError", "math/bits.overflowError"], apart := false, narrowed := true }
def FnExactOnCurveUptoSaid : Prop := fnExactOnCurveUptoRow.holds Try.pinned (OpenSpec.upto fnExactOnCurveSpec)

/-- 'laws.FnExactNegative', WHERE WHAT IT READS IS OF BULK AT MOST 1048576: true; the input reads as it did. -/
def fnExactNegativeUptoRow : OpenClaim := { program := "ytnfbfpegagcanaa", sum := "918030a511adf2b14d8c66ce6adab86b739fae818fed09693821c98456e14d3e", func := "loop.example/s02095/laws.FnExactNegative", spec := "fnExactNegative", unfollowed := true, recurses := true, named := ["math/bits.divideError", "math/bits.overflowError"], apart := false, narrowed := true }
def FnExactNegativeUptoSaid : Prop := fnExactNegativeUptoRow.holds Try.pinned (OpenSpec.upto fnExactNegativeSpec)

/-- 'laws.FnExactAdd', WHERE WHAT IT READS IS OF BULK AT MOST 1048576: true; the input reads as it did. -/
def fnExactAddUptoRow : OpenClaim := { program := "ytnfbfpegagcanaa", sum := "918030a511adf2b14d8c66ce6adab86b739fae818fed09693821c98456e14d3e", func := "loop.example/s02095/laws.FnExactAdd", spec := "fnExactAdd", unfollowed := true, recurses := true, named := ["math/bits.divideError", "math/bits.overflowError"], apart := false, narrowed := true }
def FnExactAddUptoSaid : Prop := fnExactAddUptoRow.holds Try.pinned (OpenSpec.upto fnExactAddSpec)

/-- 'laws.FnExactTimes', WHERE WHAT IT READS IS OF BULK AT MOST 1048576: true; the input reads as it did. -/
def fnExactTimesUptoRow : OpenClaim := { program := "ytnfbfpegagcanaa", sum := "918030a511adf2b14d8c66ce6adab86b739fae818fed09693821c98456e14d3e", func := "loop.example/s02095/laws.FnExactTimes", spec := "fnExactTimes", unfollowed := true, recurses := true, named := ["math/bits.divideError", "math/bits.overflowError"], apart := false, narrowed := true }
def FnExactTimesUptoSaid : Prop := fnExactTimesUptoRow.holds Try.pinned (OpenSpec.upto fnExactTimesSpec)

/-- 'laws.FnExactPutMessage', WHERE WHAT IT READS IS OF BULK AT MOST 1048576: true; the input reads as it did. -/
def fnExactPutMessageUptoRow : OpenClaim := { program := "ytnfbfpegagcanaa", sum := "918030a511adf2b14d8c66ce6adab86b739fae818fed09693821c98456e14d3e", func := "loop.example/s02095/laws.FnExactPutMessage", spec := "fnExactPutMessage", unfollowed := true, recurses := true, apart := false, narrowed := true }
def FnExactPutMessageUptoSaid : Prop := fnExactPutMessageUptoRow.holds Try.pinned (OpenSpec.upto fnExactPutMessageSpec)

/-- 'laws.FnExactGetMessage', WHERE WHAT IT READS IS OF BULK AT MOST 1048576: true; the input reads as it did. -/
def fnExactGetMessageUptoRow : OpenClaim := { program := "ytnfbfpegagcanaa", sum := "918030a511adf2b14d8c66ce6adab86b739fae818fed09693821c98456e14d3e", func := "loop.example/s02095/laws.FnExactGetMessage", spec := "fnExactGetMessage", unfollowed := true, recurses := true, apart := false, narrowed := true }
def FnExactGetMessageUptoSaid : Prop := fnExactGetMessageUptoRow.holds Try.pinned (OpenSpec.upto fnExactGetMessageSpec)

end Rows
end Go.Proofs.Ytnfbfpegagcanaa
