/-
  No cell of these rows narrows 'for every input' (looked for: loops, veiled, ifaces, maps, wideKeys, modest, calm, conditions, laid).
  DERIVED. THE GIVEN ROWS OF THIS SEAT. 10 by the template 'for every input the law returns true; each argument reads behind the call as it read before'; 0 by the template 'total and deterministic' (their statements: YtnnanbaldcjfiaaTotals.lean).
  GIVEN WITH THE SEED: the statements are not yours to turn. If you find one false, say at which input.
  Laid BY PROGRAM, IN A SANDBOX (cutbox-rows.mjs): the forced cells as the released guide's own fill.sh prints them over the translation a0887205dc171bec… (all of the seat's roots in one cut). By AI agents, Wed Nov 11 2026. No macro, syntax, notation, axiom, sorry.
-/
import Derived.Test.YtnnanbaldcjfiaaChecked
import GoSem.Claim
import GoSem.ClaimJoined
import GoSem.ClaimMapViews
import Derived.JoinedTies
import Derived.KernelRfl
namespace Go.Proofs.Ytnnanbaldcjfiaa
/- THE CELL 'sum', in the pinned program and in every row, IS THE sha256 OF THE DUMP (.gsa) THAT YtnnanbaldcjfiaaProg.lean LOADS. Nothing in Lean hashes anything: it is a label: what it is worth is what the hold of that sum in a sandbox is worth. -/
noncomputable def Try.pinned : Pinned := { name := "ytnnanbaldcjfiaa", sum := "a0887205dc171becd68f54103a8836c42ff0f05cfdaf718c92e4715934ad24f2", checked := Try.checked }
namespace Rows
def none {H : Type} : Left H := { results := [], args := [] }

/-- 'laws.FnExactLogTwoI': WHATEVER THE INPUT: true; the input reads as it did. -/
def fnExactLogTwoISpec : ChangeSpec := { name := "fnExactLogTwoI", fn := fun _ => fun
  | [d] => { results := [.lit (.bool true)], args := [d] }
  | _ => none }
def fnExactLogTwoIRow : OpenClaim := { program := "ytnnanbaldcjfiaa", sum := "a0887205dc171becd68f54103a8836c42ff0f05cfdaf718c92e4715934ad24f2", func := "loop.example/g00880/laws.FnExactLogTwoI", spec := "fnExactLogTwoI", inPlace := ["math/bits.Sub64", "math/bits.Add64"], unfollowed := true, recurses := true, named := ["math/bits.divideError", "math/bits.overflowError"], apart := false }
def FnExactLogTwoISaid : Prop := fnExactLogTwoIRow.holds Try.pinned (OpenSpec.ofChange fnExactLogTwoISpec)

/-- ITS FALSE NEIGHBOUR: 'it returns false'. Refute it at one input. -/
def fnExactLogTwoIWrong : ChangeSpec := { name := "fnExactLogTwoI", fn := fun _ => fun
  | [d] => { results := [.lit (.bool false)], args := [d] }
  | _ => none }
def FnExactLogTwoIWrongFalsely : Prop := fnExactLogTwoIRow.holds Try.pinned (OpenSpec.ofChange fnExactLogTwoIWrong)

/-- 'laws.FnExactPowerI': WHATEVER THE INPUT: true; the input reads as it did. -/
def fnExactPowerISpec : ChangeSpec := { name := "fnExactPowerI", fn := fun _ => fun
  | [d1, d2] => { results := [.lit (.bool true)], args := [d1, d2] }
  | _ => none }
def fnExactPowerIRow : OpenClaim := { program := "ytnnanbaldcjfiaa", sum := "a0887205dc171becd68f54103a8836c42ff0f05cfdaf718c92e4715934ad24f2", func := "loop.example/g00880/laws.FnExactPowerI", spec := "fnExactPowerI", inPlace := ["math/bits.Sub64", "math/bits.Add64"], unfollowed := true, recurses := true, named := ["math/bits.divideError", "math/bits.overflowError"], apart := false }
def FnExactPowerISaid : Prop := fnExactPowerIRow.holds Try.pinned (OpenSpec.ofChange fnExactPowerISpec)

/-- ITS FALSE NEIGHBOUR: 'it returns false'. Refute it at one input. -/
def fnExactPowerIWrong : ChangeSpec := { name := "fnExactPowerI", fn := fun _ => fun
  | [d1, d2] => { results := [.lit (.bool false)], args := [d1, d2] }
  | _ => none }
def FnExactPowerIWrongFalsely : Prop := fnExactPowerIRow.holds Try.pinned (OpenSpec.ofChange fnExactPowerIWrong)

/-- 'laws.FnExactMulI': WHATEVER THE INPUT: true; the input reads as it did. -/
def fnExactMulISpec : ChangeSpec := { name := "fnExactMulI", fn := fun _ => fun
  | [d1, d2] => { results := [.lit (.bool true)], args := [d1, d2] }
  | _ => none }
def fnExactMulIRow : OpenClaim := { program := "ytnnanbaldcjfiaa", sum := "a0887205dc171becd68f54103a8836c42ff0f05cfdaf718c92e4715934ad24f2", func := "loop.example/g00880/laws.FnExactMulI", spec := "fnExactMulI", inPlace := ["math/bits.Sub64", "math/bits.Add64"], unfollowed := true, recurses := true, named := ["math/bits.divideError", "math/bits.overflowError"], apart := false }
def FnExactMulISaid : Prop := fnExactMulIRow.holds Try.pinned (OpenSpec.ofChange fnExactMulISpec)

/-- ITS FALSE NEIGHBOUR: 'it returns false'. Refute it at one input. -/
def fnExactMulIWrong : ChangeSpec := { name := "fnExactMulI", fn := fun _ => fun
  | [d1, d2] => { results := [.lit (.bool false)], args := [d1, d2] }
  | _ => none }
def FnExactMulIWrongFalsely : Prop := fnExactMulIRow.holds Try.pinned (OpenSpec.ofChange fnExactMulIWrong)

/-- 'laws.FnExactDivI': WHATEVER THE INPUT: true; the input reads as it did. -/
def fnExactDivISpec : ChangeSpec := { name := "fnExactDivI", fn := fun _ => fun
  | [d1, d2] => { results := [.lit (.bool true)], args := [d1, d2] }
  | _ => none }
def fnExactDivIRow : OpenClaim := { program := "ytnnanbaldcjfiaa", sum := "a0887205dc171becd68f54103a8836c42ff0f05cfdaf718c92e4715934ad24f2", func := "loop.example/g00880/laws.FnExactDivI", spec := "fnExactDivI", inPlace := ["math/bits.Sub64", "math/bits.Add64"], unfollowed := true, recurses := true, named := ["math/bits.divideError", "math/bits.overflowError"], apart := false }
def FnExactDivISaid : Prop := fnExactDivIRow.holds Try.pinned (OpenSpec.ofChange fnExactDivISpec)

/-- ITS FALSE NEIGHBOUR: 'it returns false'. Refute it at one input. -/
def fnExactDivIWrong : ChangeSpec := { name := "fnExactDivI", fn := fun _ => fun
  | [d1, d2] => { results := [.lit (.bool false)], args := [d1, d2] }
  | _ => none }
def FnExactDivIWrongFalsely : Prop := fnExactDivIRow.holds Try.pinned (OpenSpec.ofChange fnExactDivIWrong)

/-- 'laws.FnExactDegreesOf': WHATEVER THE INPUT: true; the input reads as it did. -/
def fnExactDegreesOfSpec : ChangeSpec := { name := "fnExactDegreesOf", fn := fun _ => fun
  | [d] => { results := [.lit (.bool true)], args := [d] }
  | _ => none }
def fnExactDegreesOfRow : OpenClaim := { program := "ytnnanbaldcjfiaa", sum := "a0887205dc171becd68f54103a8836c42ff0f05cfdaf718c92e4715934ad24f2", func := "loop.example/g00880/laws.FnExactDegreesOf", spec := "fnExactDegreesOf", inPlace := ["math/bits.Sub64", "math/bits.Add64"], unfollowed := true, recurses := true, named := ["math/bits.divideError", "math/bits.overflowError"], apart := false }
def FnExactDegreesOfSaid : Prop := fnExactDegreesOfRow.holds Try.pinned (OpenSpec.ofChange fnExactDegreesOfSpec)

/-- ITS FALSE NEIGHBOUR: 'it returns false'. Refute it at one input. -/
def fnExactDegreesOfWrong : ChangeSpec := { name := "fnExactDegreesOf", fn := fun _ => fun
  | [d] => { results := [.lit (.bool false)], args := [d] }
  | _ => none }
def FnExactDegreesOfWrongFalsely : Prop := fnExactDegreesOfRow.holds Try.pinned (OpenSpec.ofChange fnExactDegreesOfWrong)

/-- 'laws.FnExactArcCotangent': WHATEVER THE INPUT: true; the input reads as it did. -/
def fnExactArcCotangentSpec : ChangeSpec := { name := "fnExactArcCotangent", fn := fun _ => fun
  | [d1, d2] => { results := [.lit (.bool true)], args := [d1, d2] }
  | _ => none }
def fnExactArcCotangentRow : OpenClaim := { program := "ytnnanbaldcjfiaa", sum := "a0887205dc171becd68f54103a8836c42ff0f05cfdaf718c92e4715934ad24f2", func := "loop.example/g00880/laws.FnExactArcCotangent", spec := "fnExactArcCotangent", inPlace := ["math/bits.Sub64", "math/bits.Add64"], unfollowed := true, recurses := true, named := ["math/bits.divideError", "math/bits.overflowError"], apart := false }
def FnExactArcCotangentSaid : Prop := fnExactArcCotangentRow.holds Try.pinned (OpenSpec.ofChange fnExactArcCotangentSpec)

/-- ITS FALSE NEIGHBOUR: 'it returns false'. Refute it at one input. -/
def fnExactArcCotangentWrong : ChangeSpec := { name := "fnExactArcCotangent", fn := fun _ => fun
  | [d1, d2] => { results := [.lit (.bool false)], args := [d1, d2] }
  | _ => none }
def FnExactArcCotangentWrongFalsely : Prop := fnExactArcCotangentRow.holds Try.pinned (OpenSpec.ofChange fnExactArcCotangentWrong)

/-- 'laws.FnExactMachinPi': WHATEVER THE INPUT: true; the input reads as it did. -/
def fnExactMachinPiSpec : ChangeSpec := { name := "fnExactMachinPi", fn := fun _ => fun
  | [d] => { results := [.lit (.bool true)], args := [d] }
  | _ => none }
def fnExactMachinPiRow : OpenClaim := { program := "ytnnanbaldcjfiaa", sum := "a0887205dc171becd68f54103a8836c42ff0f05cfdaf718c92e4715934ad24f2", func := "loop.example/g00880/laws.FnExactMachinPi", spec := "fnExactMachinPi", inPlace := ["math/bits.Sub64", "math/bits.Add64"], unfollowed := true, recurses := true, named := ["math/bits.divideError", "math/bits.overflowError"], apart := false }
def FnExactMachinPiSaid : Prop := fnExactMachinPiRow.holds Try.pinned (OpenSpec.ofChange fnExactMachinPiSpec)

/-- ITS FALSE NEIGHBOUR: 'it returns false'. Refute it at one input. -/
def fnExactMachinPiWrong : ChangeSpec := { name := "fnExactMachinPi", fn := fun _ => fun
  | [d] => { results := [.lit (.bool false)], args := [d] }
  | _ => none }
def FnExactMachinPiWrongFalsely : Prop := fnExactMachinPiRow.holds Try.pinned (OpenSpec.ofChange fnExactMachinPiWrong)

/-- 'laws.FnExactEulerPi': WHATEVER THE INPUT: true; the input reads as it did. -/
def fnExactEulerPiSpec : ChangeSpec := { name := "fnExactEulerPi", fn := fun _ => fun
  | [d] => { results := [.lit (.bool true)], args := [d] }
  | _ => none }
def fnExactEulerPiRow : OpenClaim := { program := "ytnnanbaldcjfiaa", sum := "a0887205dc171becd68f54103a8836c42ff0f05cfdaf718c92e4715934ad24f2", func := "loop.example/g00880/laws.FnExactEulerPi", spec := "fnExactEulerPi", inPlace := ["math/bits.Sub64", "math/bits.Add64"], unfollowed := true, recurses := true, named := ["math/bits.divideError", "math/bits.overflowError"], apart := false }
def FnExactEulerPiSaid : Prop := fnExactEulerPiRow.holds Try.pinned (OpenSpec.ofChange fnExactEulerPiSpec)

/-- ITS FALSE NEIGHBOUR: 'it returns false'. Refute it at one input. -/
def fnExactEulerPiWrong : ChangeSpec := { name := "fnExactEulerPi", fn := fun _ => fun
  | [d] => { results := [.lit (.bool false)], args := [d] }
  | _ => none }
def FnExactEulerPiWrongFalsely : Prop := fnExactEulerPiRow.holds Try.pinned (OpenSpec.ofChange fnExactEulerPiWrong)

/-- 'laws.FnPi': WHATEVER THE INPUT: true; the input reads as it did. -/
def fnPiSpec : ChangeSpec := { name := "fnPi", fn := fun _ => fun
  | [d] => { results := [.lit (.bool true)], args := [d] }
  | _ => none }
def fnPiRow : OpenClaim := { program := "ytnnanbaldcjfiaa", sum := "a0887205dc171becd68f54103a8836c42ff0f05cfdaf718c92e4715934ad24f2", func := "loop.example/g00880/laws.FnPi", spec := "fnPi", inPlace := ["math/bits.Sub64", "math/bits.Add64"], unfollowed := true, recurses := true, named := ["math/bits.divideError", "math/bits.overflowError"], apart := false }
def FnPiSaid : Prop := fnPiRow.holds Try.pinned (OpenSpec.ofChange fnPiSpec)

/-- ITS FALSE NEIGHBOUR: 'it returns false'. Refute it at one input. -/
def fnPiWrong : ChangeSpec := { name := "fnPi", fn := fun _ => fun
  | [d] => { results := [.lit (.bool false)], args := [d] }
  | _ => none }
def FnPiWrongFalsely : Prop := fnPiRow.holds Try.pinned (OpenSpec.ofChange fnPiWrong)

/-- 'laws.FnUnits': WHATEVER THE INPUT: true; the input reads as it did. -/
def fnUnitsSpec : ChangeSpec := { name := "fnUnits", fn := fun _ => fun
  | [d1, d2] => { results := [.lit (.bool true)], args := [d1, d2] }
  | _ => none }
def fnUnitsRow : OpenClaim := { program := "ytnnanbaldcjfiaa", sum := "a0887205dc171becd68f54103a8836c42ff0f05cfdaf718c92e4715934ad24f2", func := "loop.example/g00880/laws.FnUnits", spec := "fnUnits", inPlace := ["math/bits.Sub64", "math/bits.Add64"], unfollowed := true, recurses := true, named := ["math/bits.divideError", "math/bits.overflowError"], apart := false }
def FnUnitsSaid : Prop := fnUnitsRow.holds Try.pinned (OpenSpec.ofChange fnUnitsSpec)

/-- ITS FALSE NEIGHBOUR: 'it returns false'. Refute it at one input. -/
def fnUnitsWrong : ChangeSpec := { name := "fnUnits", fn := fun _ => fun
  | [d1, d2] => { results := [.lit (.bool false)], args := [d1, d2] }
  | _ => none }
def FnUnitsWrongFalsely : Prop := fnUnitsRow.holds Try.pinned (OpenSpec.ofChange fnUnitsWrong)

/- THE SECOND FORM. 'bulk': how many values and letters a reading holds, each counted each time it is reached (what is shared counts as often as it is met; a slice's spare places count too). A statement '..UptoSaid' is the law's where the arguments, and the package variables that the reading takes, are together of bulk at most 1048576: NARROWER than '..Said'. Prove '..Said' where nothing that the law and all that it calls make is longer than what came in: it says more and counts as full. Else prove '..UptoSaid'. A law counts once. -/
mutual
def uptoBulk {H : Type} : DataW H → Nat
  | .lit (.string bytes) => bytes.length + 1
  | .lit _ => 1
  | .nil => 1
  | .ptr d => uptoBulk d + 1
  | .slice elems spare => uptoBulkAll elems + uptoBulkAll spare + 1
  | .agg parts => uptoBulkAll parts + 1
  | .iface _ d => uptoBulk d + 1
  | .map entries => uptoBulkEntries entries + 1
  | .held _ => 1
def uptoBulkAll {H : Type} : List (DataW H) → Nat
  | [] => 0
  | d :: r => uptoBulk d + uptoBulkAll r
def uptoBulkEntries {H : Type} : List (Lit × DataW H) → Nat
  | [] => 0
  | x :: r => uptoBulkEntry x + uptoBulkEntries r
def uptoBulkEntry {H : Type} : Lit × DataW H → Nat
  | (.string bytes, d) => bytes.length + uptoBulk d + 1
  | (_, d) => uptoBulk d + 1
 end
def uptoSmall : (H : Type) → List (DataW H) → Bool := fun _ ds => decide (uptoBulkAll ds ≤ 1048576)
def OpenSpec.upto (s : _root_.Go.ChangeSpec) : _root_.Go.OpenSpec := { _root_.Go.OpenSpec.ofChange s with cond := some uptoSmall }

/-- 'laws.FnExactLogTwoI', WHERE WHAT IT READS IS OF BULK AT MOST 1048576: true; the input reads as it did. -/
def fnExactLogTwoIUptoRow : OpenClaim := { program := "ytnnanbaldcjfiaa", sum := "a0887205dc171becd68f54103a8836c42ff0f05cfdaf718c92e4715934ad24f2", func := "loop.example/g00880/laws.FnExactLogTwoI", spec := "fnExactLogTwoI", inPlace := ["math/bits.Sub64", "math/bits.Add64"], unfollowed := true, recurses := true, named := ["math/bits.divideError", "math/bits.overflowError"], apart := false, narrowed := true }
def FnExactLogTwoIUptoSaid : Prop := fnExactLogTwoIUptoRow.holds Try.pinned (OpenSpec.upto fnExactLogTwoISpec)

/-- 'laws.FnExactPowerI', WHERE WHAT IT READS IS OF BULK AT MOST 1048576: true; the input reads as it did. -/
def fnExactPowerIUptoRow : OpenClaim := { program := "ytnnanbaldcjfiaa", sum := "a0887205dc171becd68f54103a8836c42ff0f05cfdaf718c92e4715934ad24f2", func := "loop.example/g00880/laws.FnExactPowerI", spec := "fnExactPowerI", inPlace := ["math/bits.Sub64", "math/bits.Add64"], unfollowed := true, recurses := true, named := ["math/bits.divideError", "math/bits.overflowError"], apart := false, narrowed := true }
def FnExactPowerIUptoSaid : Prop := fnExactPowerIUptoRow.holds Try.pinned (OpenSpec.upto fnExactPowerISpec)

/-- 'laws.FnExactMulI', WHERE WHAT IT READS IS OF BULK AT MOST 1048576: true; the input reads as it did. -/
def fnExactMulIUptoRow : OpenClaim := { program := "ytnnanbaldcjfiaa", sum := "a0887205dc171becd68f54103a8836c42ff0f05cfdaf718c92e4715934ad24f2", func := "loop.example/g00880/laws.FnExactMulI", spec := "fnExactMulI", inPlace := ["math/bits.Sub64", "math/bits.Add64"], unfollowed := true, recurses := true, named := ["math/bits.divideError", "math/bits.overflowError"], apart := false, narrowed := true }
def FnExactMulIUptoSaid : Prop := fnExactMulIUptoRow.holds Try.pinned (OpenSpec.upto fnExactMulISpec)

/-- 'laws.FnExactDivI', WHERE WHAT IT READS IS OF BULK AT MOST 1048576: true; the input reads as it did. -/
def fnExactDivIUptoRow : OpenClaim := { program := "ytnnanbaldcjfiaa", sum := "a0887205dc171becd68f54103a8836c42ff0f05cfdaf718c92e4715934ad24f2", func := "loop.example/g00880/laws.FnExactDivI", spec := "fnExactDivI", inPlace := ["math/bits.Sub64", "math/bits.Add64"], unfollowed := true, recurses := true, named := ["math/bits.divideError", "math/bits.overflowError"], apart := false, narrowed := true }
def FnExactDivIUptoSaid : Prop := fnExactDivIUptoRow.holds Try.pinned (OpenSpec.upto fnExactDivISpec)

/-- 'laws.FnExactDegreesOf', WHERE WHAT IT READS IS OF BULK AT MOST 1048576: true; the input reads as it did. -/
def fnExactDegreesOfUptoRow : OpenClaim := { program := "ytnnanbaldcjfiaa", sum := "a0887205dc171becd68f54103a8836c42ff0f05cfdaf718c92e4715934ad24f2", func := "loop.example/g00880/laws.FnExactDegreesOf", spec := "fnExactDegreesOf", inPlace := ["math/bits.Sub64", "math/bits.Add64"], unfollowed := true, recurses := true, named := ["math/bits.divideError", "math/bits.overflowError"], apart := false, narrowed := true }
def FnExactDegreesOfUptoSaid : Prop := fnExactDegreesOfUptoRow.holds Try.pinned (OpenSpec.upto fnExactDegreesOfSpec)

/-- 'laws.FnExactArcCotangent', WHERE WHAT IT READS IS OF BULK AT MOST 1048576: true; the input reads as it did. -/
def fnExactArcCotangentUptoRow : OpenClaim := { program := "ytnnanbaldcjfiaa", sum := "a0887205dc171becd68f54103a8836c42ff0f05cfdaf718c92e4715934ad24f2", func := "loop.example/g00880/laws.FnExactArcCotangent", spec := "fnExactArcCotangent", inPlace := ["math/bits.Sub64", "math/bits.Add64"], unfollowed := true, recurses := true, named := ["math/bits.divideError", "math/bits.overflowError"], apart := false, narrowed := true }
def FnExactArcCotangentUptoSaid : Prop := fnExactArcCotangentUptoRow.holds Try.pinned (OpenSpec.upto fnExactArcCotangentSpec)

/-- 'laws.FnExactMachinPi', WHERE WHAT IT READS IS OF BULK AT MOST 1048576: true; the input reads as it did. -/
def fnExactMachinPiUptoRow : OpenClaim := { program := "ytnnanbaldcjfiaa", sum := "a0887205dc171becd68f54103a8836c42ff0f05cfdaf718c92e4715934ad24f2", func := "loop.example/g00880/laws.FnExactMachinPi", spec := "fnExactMachinPi", inPlace := ["math/bits.Sub64", "math/bits.Add64"], unfollowed := true, recurses := true, named := ["math/bits.divideError", "math/bits.overflowError"], apart := false, narrowed := true }
def FnExactMachinPiUptoSaid : Prop := fnExactMachinPiUptoRow.holds Try.pinned (OpenSpec.upto fnExactMachinPiSpec)

/-- 'laws.FnExactEulerPi', WHERE WHAT IT READS IS OF BULK AT MOST 1048576: true; the input reads as it did. -/
def fnExactEulerPiUptoRow : OpenClaim := { program := "ytnnanbaldcjfiaa", sum := "a0887205dc171becd68f54103a8836c42ff0f05cfdaf718c92e4715934ad24f2", func := "loop.example/g00880/laws.FnExactEulerPi", spec := "fnExactEulerPi", inPlace := ["math/bits.Sub64", "math/bits.Add64"], unfollowed := true, recurses := true, named := ["math/bits.divideError", "math/bits.overflowError"], apart := false, narrowed := true }
def FnExactEulerPiUptoSaid : Prop := fnExactEulerPiUptoRow.holds Try.pinned (OpenSpec.upto fnExactEulerPiSpec)

/-- 'laws.FnPi', WHERE WHAT IT READS IS OF BULK AT MOST 1048576: true; the input reads as it did. -/
def fnPiUptoRow : OpenClaim := { program := "ytnnanbaldcjfiaa", sum := "a0887205dc171becd68f54103a8836c42ff0f05cfdaf718c92e4715934ad24f2", func := "loop.example/g00880/laws.FnPi", spec := "fnPi", inPlace := ["math/bits.Sub64", "math/bits.Add64"], unfollowed := true, recurses := true, named := ["math/bits.divideError", "math/bits.overflowError"], apart := false, narrowed := true }
def FnPiUptoSaid : Prop := fnPiUptoRow.holds Try.pinned (OpenSpec.upto fnPiSpec)

/-- 'laws.FnUnits', WHERE WHAT IT READS IS OF BULK AT MOST 1048576: true; the input reads as it did. -/
def fnUnitsUptoRow : OpenClaim := { program := "ytnnanbaldcjfiaa", sum := "a0887205dc171becd68f54103a8836c42ff0f05cfdaf718c92e4715934ad24f2", func := "loop.example/g00880/laws.FnUnits", spec := "fnUnits", inPlace := ["math/bits.Sub64", "math/bits.Add64"], unfollowed := true, recurses := true, named := ["math/bits.divideError", "math/bits.overflowError"], apart := false, narrowed := true }
def FnUnitsUptoSaid : Prop := fnUnitsUptoRow.holds Try.pinned (OpenSpec.upto fnUnitsSpec)

end Rows
end Go.Proofs.Ytnnanbaldcjfiaa
