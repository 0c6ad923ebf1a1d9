/-
  No cell of these rows narrows 'for every input' (looked for: loops, veiled, ifaces, maps, wideKeys, modest, calm, conditions, laid).
  DERIVED. THE GIVEN ROWS OF THIS SEAT. 34 by the template 'for every input the law returns true; each argument reads behind the call as it read before'; 0 by the template 'total and deterministic' (their statements: YtfikgbamnlmglaaTotals.lean).
  GIVEN WITH THE SEED: the statements are not yours to turn. If you find one false, say at which input.
  Laid BY PROGRAM, IN A SANDBOX (cutbox-rows.mjs): the forced cells as the released guide's own fill.sh prints them over the translation d541543767e5acdf… (all of the seat's roots in one cut). By AI agents, Wed Nov 11 2026. No macro, syntax, notation, axiom, sorry.
-/
import Derived.Test.YtfikgbamnlmglaaChecked
import GoSem.Claim
import GoSem.ClaimJoined
import GoSem.ClaimMapViews
import Derived.JoinedTies
import Derived.KernelRfl
namespace Go.Proofs.Ytfikgbamnlmglaa
/- THE CELL 'sum', in the pinned program and in every row, IS THE sha256 OF THE DUMP (.gsa) THAT YtfikgbamnlmglaaProg.lean LOADS. Nothing in Lean hashes anything: it is a label: what it is worth is what the hold of that sum in a sandbox is worth. -/
noncomputable def Try.pinned : Pinned := { name := "ytfikgbamnlmglaa", sum := "d541543767e5acdf2ab95b47e1488a1c19b914dacbfc05cb7d2c34597ecaea50", checked := Try.checked }
namespace Rows
def none {H : Type} : Left H := { results := [], args := [] }

/-- 'laws.FnExactValidFix': WHATEVER THE INPUT: true; the input reads as it did. -/
def fnExactValidFixSpec : ChangeSpec := { name := "fnExactValidFix", fn := fun _ => fun
  | [d] => { results := [.lit (.bool true)], args := [d] }
  | _ => none }
def fnExactValidFixRow : OpenClaim := { program := "ytfikgbamnlmglaa", sum := "d541543767e5acdf2ab95b47e1488a1c19b914dacbfc05cb7d2c34597ecaea50", func := "loop.example/g00880/laws.FnExactValidFix", spec := "fnExactValidFix", apart := false }
def FnExactValidFixSaid : Prop := fnExactValidFixRow.holds Try.pinned (OpenSpec.ofChange fnExactValidFixSpec)

/-- ITS FALSE NEIGHBOUR: 'it returns false'. Refute it at one input. -/
def fnExactValidFixWrong : ChangeSpec := { name := "fnExactValidFix", fn := fun _ => fun
  | [d] => { results := [.lit (.bool false)], args := [d] }
  | _ => none }
def FnExactValidFixWrongFalsely : Prop := fnExactValidFixRow.holds Try.pinned (OpenSpec.ofChange fnExactValidFixWrong)

/-- 'laws.FnExactFixFloor': WHATEVER THE INPUT: true; the input reads as it did. -/
def fnExactFixFloorSpec : ChangeSpec := { name := "fnExactFixFloor", fn := fun _ => fun
  | [d1, d2] => { results := [.lit (.bool true)], args := [d1, d2] }
  | _ => none }
def fnExactFixFloorRow : OpenClaim := { program := "ytfikgbamnlmglaa", sum := "d541543767e5acdf2ab95b47e1488a1c19b914dacbfc05cb7d2c34597ecaea50", func := "loop.example/g00880/laws.FnExactFixFloor", spec := "fnExactFixFloor", inPlace := ["math/bits.Sub64"], unfollowed := true, recurses := true, named := ["math/bits.divideError", "math/bits.overflowError"], apart := false }
def FnExactFixFloorSaid : Prop := fnExactFixFloorRow.holds Try.pinned (OpenSpec.ofChange fnExactFixFloorSpec)

/-- ITS FALSE NEIGHBOUR: 'it returns false'. Refute it at one input. -/
def fnExactFixFloorWrong : ChangeSpec := { name := "fnExactFixFloor", fn := fun _ => fun
  | [d1, d2] => { results := [.lit (.bool false)], args := [d1, d2] }
  | _ => none }
def FnExactFixFloorWrongFalsely : Prop := fnExactFixFloorRow.holds Try.pinned (OpenSpec.ofChange fnExactFixFloorWrong)

/-- 'laws.FnExactFixCeil': WHATEVER THE INPUT: true; the input reads as it did. -/
def fnExactFixCeilSpec : ChangeSpec := { name := "fnExactFixCeil", fn := fun _ => fun
  | [d1, d2] => { results := [.lit (.bool true)], args := [d1, d2] }
  | _ => none }
def fnExactFixCeilRow : OpenClaim := { program := "ytfikgbamnlmglaa", sum := "d541543767e5acdf2ab95b47e1488a1c19b914dacbfc05cb7d2c34597ecaea50", func := "loop.example/g00880/laws.FnExactFixCeil", spec := "fnExactFixCeil", inPlace := ["math/bits.Sub64", "math/bits.Add64"], unfollowed := true, recurses := true, named := ["math/bits.divideError", "math/bits.overflowError"], apart := false }
def FnExactFixCeilSaid : Prop := fnExactFixCeilRow.holds Try.pinned (OpenSpec.ofChange fnExactFixCeilSpec)

/-- ITS FALSE NEIGHBOUR: 'it returns false'. Refute it at one input. -/
def fnExactFixCeilWrong : ChangeSpec := { name := "fnExactFixCeil", fn := fun _ => fun
  | [d1, d2] => { results := [.lit (.bool false)], args := [d1, d2] }
  | _ => none }
def FnExactFixCeilWrongFalsely : Prop := fnExactFixCeilRow.holds Try.pinned (OpenSpec.ofChange fnExactFixCeilWrong)

/-- 'laws.FnExactMulDown': WHATEVER THE INPUT: true; the input reads as it did. -/
def fnExactMulDownSpec : ChangeSpec := { name := "fnExactMulDown", fn := fun _ => fun
  | [d1, d2] => { results := [.lit (.bool true)], args := [d1, d2] }
  | _ => none }
def fnExactMulDownRow : OpenClaim := { program := "ytfikgbamnlmglaa", sum := "d541543767e5acdf2ab95b47e1488a1c19b914dacbfc05cb7d2c34597ecaea50", func := "loop.example/g00880/laws.FnExactMulDown", spec := "fnExactMulDown", inPlace := ["math/bits.Sub64"], unfollowed := true, recurses := true, named := ["math/bits.divideError", "math/bits.overflowError"], apart := false }
def FnExactMulDownSaid : Prop := fnExactMulDownRow.holds Try.pinned (OpenSpec.ofChange fnExactMulDownSpec)

/-- ITS FALSE NEIGHBOUR: 'it returns false'. Refute it at one input. -/
def fnExactMulDownWrong : ChangeSpec := { name := "fnExactMulDown", fn := fun _ => fun
  | [d1, d2] => { results := [.lit (.bool false)], args := [d1, d2] }
  | _ => none }
def FnExactMulDownWrongFalsely : Prop := fnExactMulDownRow.holds Try.pinned (OpenSpec.ofChange fnExactMulDownWrong)

/-- 'laws.FnExactMulUp': WHATEVER THE INPUT: true; the input reads as it did. -/
def fnExactMulUpSpec : ChangeSpec := { name := "fnExactMulUp", fn := fun _ => fun
  | [d1, d2] => { results := [.lit (.bool true)], args := [d1, d2] }
  | _ => none }
def fnExactMulUpRow : OpenClaim := { program := "ytfikgbamnlmglaa", sum := "d541543767e5acdf2ab95b47e1488a1c19b914dacbfc05cb7d2c34597ecaea50", func := "loop.example/g00880/laws.FnExactMulUp", spec := "fnExactMulUp", inPlace := ["math/bits.Sub64", "math/bits.Add64"], unfollowed := true, recurses := true, named := ["math/bits.divideError", "math/bits.overflowError"], apart := false }
def FnExactMulUpSaid : Prop := fnExactMulUpRow.holds Try.pinned (OpenSpec.ofChange fnExactMulUpSpec)

/-- ITS FALSE NEIGHBOUR: 'it returns false'. Refute it at one input. -/
def fnExactMulUpWrong : ChangeSpec := { name := "fnExactMulUp", fn := fun _ => fun
  | [d1, d2] => { results := [.lit (.bool false)], args := [d1, d2] }
  | _ => none }
def FnExactMulUpWrongFalsely : Prop := fnExactMulUpRow.holds Try.pinned (OpenSpec.ofChange fnExactMulUpWrong)

/-- 'laws.FnExactDivDown': WHATEVER THE INPUT: true; the input reads as it did. -/
def fnExactDivDownSpec : ChangeSpec := { name := "fnExactDivDown", fn := fun _ => fun
  | [d1, d2] => { results := [.lit (.bool true)], args := [d1, d2] }
  | _ => none }
def fnExactDivDownRow : OpenClaim := { program := "ytfikgbamnlmglaa", sum := "d541543767e5acdf2ab95b47e1488a1c19b914dacbfc05cb7d2c34597ecaea50", func := "loop.example/g00880/laws.FnExactDivDown", spec := "fnExactDivDown", inPlace := ["math/bits.Sub64"], unfollowed := true, recurses := true, named := ["math/bits.divideError", "math/bits.overflowError"], apart := false }
def FnExactDivDownSaid : Prop := fnExactDivDownRow.holds Try.pinned (OpenSpec.ofChange fnExactDivDownSpec)

/-- ITS FALSE NEIGHBOUR: 'it returns false'. Refute it at one input. -/
def fnExactDivDownWrong : ChangeSpec := { name := "fnExactDivDown", fn := fun _ => fun
  | [d1, d2] => { results := [.lit (.bool false)], args := [d1, d2] }
  | _ => none }
def FnExactDivDownWrongFalsely : Prop := fnExactDivDownRow.holds Try.pinned (OpenSpec.ofChange fnExactDivDownWrong)

/-- 'laws.FnExactDivUp': WHATEVER THE INPUT: true; the input reads as it did. -/
def fnExactDivUpSpec : ChangeSpec := { name := "fnExactDivUp", fn := fun _ => fun
  | [d1, d2] => { results := [.lit (.bool true)], args := [d1, d2] }
  | _ => none }
def fnExactDivUpRow : OpenClaim := { program := "ytfikgbamnlmglaa", sum := "d541543767e5acdf2ab95b47e1488a1c19b914dacbfc05cb7d2c34597ecaea50", func := "loop.example/g00880/laws.FnExactDivUp", spec := "fnExactDivUp", inPlace := ["math/bits.Sub64", "math/bits.Add64"], unfollowed := true, recurses := true, named := ["math/bits.divideError", "math/bits.overflowError"], apart := false }
def FnExactDivUpSaid : Prop := fnExactDivUpRow.holds Try.pinned (OpenSpec.ofChange fnExactDivUpSpec)

/-- ITS FALSE NEIGHBOUR: 'it returns false'. Refute it at one input. -/
def fnExactDivUpWrong : ChangeSpec := { name := "fnExactDivUp", fn := fun _ => fun
  | [d1, d2] => { results := [.lit (.bool false)], args := [d1, d2] }
  | _ => none }
def FnExactDivUpWrongFalsely : Prop := fnExactDivUpRow.holds Try.pinned (OpenSpec.ofChange fnExactDivUpWrong)

/-- 'laws.FnExactSqrtDown': WHATEVER THE INPUT: true; the input reads as it did. -/
def fnExactSqrtDownSpec : ChangeSpec := { name := "fnExactSqrtDown", fn := fun _ => fun
  | [d] => { results := [.lit (.bool true)], args := [d] }
  | _ => none }
def fnExactSqrtDownRow : OpenClaim := { program := "ytfikgbamnlmglaa", sum := "d541543767e5acdf2ab95b47e1488a1c19b914dacbfc05cb7d2c34597ecaea50", func := "loop.example/g00880/laws.FnExactSqrtDown", spec := "fnExactSqrtDown", inPlace := ["math/bits.Sub64"], unfollowed := true, recurses := true, apart := false }
def FnExactSqrtDownSaid : Prop := fnExactSqrtDownRow.holds Try.pinned (OpenSpec.ofChange fnExactSqrtDownSpec)

/-- ITS FALSE NEIGHBOUR: 'it returns false'. Refute it at one input. -/
def fnExactSqrtDownWrong : ChangeSpec := { name := "fnExactSqrtDown", fn := fun _ => fun
  | [d] => { results := [.lit (.bool false)], args := [d] }
  | _ => none }
def FnExactSqrtDownWrongFalsely : Prop := fnExactSqrtDownRow.holds Try.pinned (OpenSpec.ofChange fnExactSqrtDownWrong)

/-- 'laws.FnExactSqrtUp': WHATEVER THE INPUT: true; the input reads as it did. -/
def fnExactSqrtUpSpec : ChangeSpec := { name := "fnExactSqrtUp", fn := fun _ => fun
  | [d] => { results := [.lit (.bool true)], args := [d] }
  | _ => none }
def fnExactSqrtUpRow : OpenClaim := { program := "ytfikgbamnlmglaa", sum := "d541543767e5acdf2ab95b47e1488a1c19b914dacbfc05cb7d2c34597ecaea50", func := "loop.example/g00880/laws.FnExactSqrtUp", spec := "fnExactSqrtUp", inPlace := ["math/bits.Sub64"], unfollowed := true, recurses := true, apart := false }
def FnExactSqrtUpSaid : Prop := fnExactSqrtUpRow.holds Try.pinned (OpenSpec.ofChange fnExactSqrtUpSpec)

/-- ITS FALSE NEIGHBOUR: 'it returns false'. Refute it at one input. -/
def fnExactSqrtUpWrong : ChangeSpec := { name := "fnExactSqrtUp", fn := fun _ => fun
  | [d] => { results := [.lit (.bool false)], args := [d] }
  | _ => none }
def FnExactSqrtUpWrongFalsely : Prop := fnExactSqrtUpRow.holds Try.pinned (OpenSpec.ofChange fnExactSqrtUpWrong)

/-- 'laws.FnExactWhole': WHATEVER THE INPUT: true; the input reads as it did. -/
def fnExactWholeSpec : ChangeSpec := { name := "fnExactWhole", fn := fun _ => fun
  | [] => { results := [.lit (.bool true)], args := [] }
  | _ => none }
def fnExactWholeRow : OpenClaim := { program := "ytfikgbamnlmglaa", sum := "d541543767e5acdf2ab95b47e1488a1c19b914dacbfc05cb7d2c34597ecaea50", func := "loop.example/g00880/laws.FnExactWhole", spec := "fnExactWhole", apart := false }
def FnExactWholeSaid : Prop := fnExactWholeRow.holds Try.pinned (OpenSpec.ofChange fnExactWholeSpec)

/-- ITS FALSE NEIGHBOUR: 'it returns false'. Refute it at one input. -/
def fnExactWholeWrong : ChangeSpec := { name := "fnExactWhole", fn := fun _ => fun
  | [] => { results := [.lit (.bool false)], args := [] }
  | _ => none }
def FnExactWholeWrongFalsely : Prop := fnExactWholeRow.holds Try.pinned (OpenSpec.ofChange fnExactWholeWrong)

/-- 'laws.FnExactValidInterval': WHATEVER THE INPUT: true; the input reads as it did. -/
def fnExactValidIntervalSpec : ChangeSpec := { name := "fnExactValidInterval", fn := fun _ => fun
  | [d] => { results := [.lit (.bool true)], args := [d] }
  | _ => none }
def fnExactValidIntervalRow : OpenClaim := { program := "ytfikgbamnlmglaa", sum := "d541543767e5acdf2ab95b47e1488a1c19b914dacbfc05cb7d2c34597ecaea50", func := "loop.example/g00880/laws.FnExactValidInterval", spec := "fnExactValidInterval", apart := false }
def FnExactValidIntervalSaid : Prop := fnExactValidIntervalRow.holds Try.pinned (OpenSpec.ofChange fnExactValidIntervalSpec)

/-- ITS FALSE NEIGHBOUR: 'it returns false'. Refute it at one input. -/
def fnExactValidIntervalWrong : ChangeSpec := { name := "fnExactValidInterval", fn := fun _ => fun
  | [d] => { results := [.lit (.bool false)], args := [d] }
  | _ => none }
def FnExactValidIntervalWrongFalsely : Prop := fnExactValidIntervalRow.holds Try.pinned (OpenSpec.ofChange fnExactValidIntervalWrong)

/-- 'laws.FnExactIsWhole': WHATEVER THE INPUT: true; the input reads as it did. -/
def fnExactIsWholeSpec : ChangeSpec := { name := "fnExactIsWhole", fn := fun _ => fun
  | [d] => { results := [.lit (.bool true)], args := [d] }
  | _ => none }
def fnExactIsWholeRow : OpenClaim := { program := "ytfikgbamnlmglaa", sum := "d541543767e5acdf2ab95b47e1488a1c19b914dacbfc05cb7d2c34597ecaea50", func := "loop.example/g00880/laws.FnExactIsWhole", spec := "fnExactIsWhole", apart := false }
def FnExactIsWholeSaid : Prop := fnExactIsWholeRow.holds Try.pinned (OpenSpec.ofChange fnExactIsWholeSpec)

/-- ITS FALSE NEIGHBOUR: 'it returns false'. Refute it at one input. -/
def fnExactIsWholeWrong : ChangeSpec := { name := "fnExactIsWhole", fn := fun _ => fun
  | [d] => { results := [.lit (.bool false)], args := [d] }
  | _ => none }
def FnExactIsWholeWrongFalsely : Prop := fnExactIsWholeRow.holds Try.pinned (OpenSpec.ofChange fnExactIsWholeWrong)

/-- 'laws.FnExactInteger': WHATEVER THE INPUT: true; the input reads as it did. -/
def fnExactIntegerSpec : ChangeSpec := { name := "fnExactInteger", fn := fun _ => fun
  | [d] => { results := [.lit (.bool true)], args := [d] }
  | _ => none }
def fnExactIntegerRow : OpenClaim := { program := "ytfikgbamnlmglaa", sum := "d541543767e5acdf2ab95b47e1488a1c19b914dacbfc05cb7d2c34597ecaea50", func := "loop.example/g00880/laws.FnExactInteger", spec := "fnExactInteger", inPlace := ["math/bits.Sub64", "math/bits.Add64"], unfollowed := true, recurses := true, named := ["math/bits.divideError", "math/bits.overflowError"], apart := false }
def FnExactIntegerSaid : Prop := fnExactIntegerRow.holds Try.pinned (OpenSpec.ofChange fnExactIntegerSpec)

/-- ITS FALSE NEIGHBOUR: 'it returns false'. Refute it at one input. -/
def fnExactIntegerWrong : ChangeSpec := { name := "fnExactInteger", fn := fun _ => fun
  | [d] => { results := [.lit (.bool false)], args := [d] }
  | _ => none }
def FnExactIntegerWrongFalsely : Prop := fnExactIntegerRow.holds Try.pinned (OpenSpec.ofChange fnExactIntegerWrong)

/-- 'laws.FnExactQuotient': WHATEVER THE INPUT: true; the input reads as it did. -/
def fnExactQuotientSpec : ChangeSpec := { name := "fnExactQuotient", fn := fun _ => fun
  | [d1, d2] => { results := [.lit (.bool true)], args := [d1, d2] }
  | _ => none }
def fnExactQuotientRow : OpenClaim := { program := "ytfikgbamnlmglaa", sum := "d541543767e5acdf2ab95b47e1488a1c19b914dacbfc05cb7d2c34597ecaea50", func := "loop.example/g00880/laws.FnExactQuotient", spec := "fnExactQuotient", inPlace := ["math/bits.Sub64", "math/bits.Add64"], unfollowed := true, recurses := true, named := ["math/bits.divideError", "math/bits.overflowError"], apart := false }
def FnExactQuotientSaid : Prop := fnExactQuotientRow.holds Try.pinned (OpenSpec.ofChange fnExactQuotientSpec)

/-- ITS FALSE NEIGHBOUR: 'it returns false'. Refute it at one input. -/
def fnExactQuotientWrong : ChangeSpec := { name := "fnExactQuotient", fn := fun _ => fun
  | [d1, d2] => { results := [.lit (.bool false)], args := [d1, d2] }
  | _ => none }
def FnExactQuotientWrongFalsely : Prop := fnExactQuotientRow.holds Try.pinned (OpenSpec.ofChange fnExactQuotientWrong)

/-- 'laws.FnExactAddI': WHATEVER THE INPUT: true; the input reads as it did. -/
def fnExactAddISpec : ChangeSpec := { name := "fnExactAddI", fn := fun _ => fun
  | [d1, d2] => { results := [.lit (.bool true)], args := [d1, d2] }
  | _ => none }
def fnExactAddIRow : OpenClaim := { program := "ytfikgbamnlmglaa", sum := "d541543767e5acdf2ab95b47e1488a1c19b914dacbfc05cb7d2c34597ecaea50", func := "loop.example/g00880/laws.FnExactAddI", spec := "fnExactAddI", apart := false }
def FnExactAddISaid : Prop := fnExactAddIRow.holds Try.pinned (OpenSpec.ofChange fnExactAddISpec)

/-- ITS FALSE NEIGHBOUR: 'it returns false'. Refute it at one input. -/
def fnExactAddIWrong : ChangeSpec := { name := "fnExactAddI", fn := fun _ => fun
  | [d1, d2] => { results := [.lit (.bool false)], args := [d1, d2] }
  | _ => none }
def FnExactAddIWrongFalsely : Prop := fnExactAddIRow.holds Try.pinned (OpenSpec.ofChange fnExactAddIWrong)

/-- 'laws.FnExactSubI': WHATEVER THE INPUT: true; the input reads as it did. -/
def fnExactSubISpec : ChangeSpec := { name := "fnExactSubI", fn := fun _ => fun
  | [d1, d2] => { results := [.lit (.bool true)], args := [d1, d2] }
  | _ => none }
def fnExactSubIRow : OpenClaim := { program := "ytfikgbamnlmglaa", sum := "d541543767e5acdf2ab95b47e1488a1c19b914dacbfc05cb7d2c34597ecaea50", func := "loop.example/g00880/laws.FnExactSubI", spec := "fnExactSubI", apart := false }
def FnExactSubISaid : Prop := fnExactSubIRow.holds Try.pinned (OpenSpec.ofChange fnExactSubISpec)

/-- ITS FALSE NEIGHBOUR: 'it returns false'. Refute it at one input. -/
def fnExactSubIWrong : ChangeSpec := { name := "fnExactSubI", fn := fun _ => fun
  | [d1, d2] => { results := [.lit (.bool false)], args := [d1, d2] }
  | _ => none }
def FnExactSubIWrongFalsely : Prop := fnExactSubIRow.holds Try.pinned (OpenSpec.ofChange fnExactSubIWrong)

/-- 'laws.FnExactNegI': WHATEVER THE INPUT: true; the input reads as it did. -/
def fnExactNegISpec : ChangeSpec := { name := "fnExactNegI", fn := fun _ => fun
  | [d] => { results := [.lit (.bool true)], args := [d] }
  | _ => none }
def fnExactNegIRow : OpenClaim := { program := "ytfikgbamnlmglaa", sum := "d541543767e5acdf2ab95b47e1488a1c19b914dacbfc05cb7d2c34597ecaea50", func := "loop.example/g00880/laws.FnExactNegI", spec := "fnExactNegI", apart := false }
def FnExactNegISaid : Prop := fnExactNegIRow.holds Try.pinned (OpenSpec.ofChange fnExactNegISpec)

/-- ITS FALSE NEIGHBOUR: 'it returns false'. Refute it at one input. -/
def fnExactNegIWrong : ChangeSpec := { name := "fnExactNegI", fn := fun _ => fun
  | [d] => { results := [.lit (.bool false)], args := [d] }
  | _ => none }
def FnExactNegIWrongFalsely : Prop := fnExactNegIRow.holds Try.pinned (OpenSpec.ofChange fnExactNegIWrong)

/-- 'laws.FnExactMulI': WHATEVER THE INPUT: true; the input reads as it did. -/
def fnExactMulISpec : ChangeSpec := { name := "fnExactMulI", fn := fun _ => fun
  | [d1, d2] => { results := [.lit (.bool true)], args := [d1, d2] }
  | _ => none }
def fnExactMulIRow : OpenClaim := { program := "ytfikgbamnlmglaa", sum := "d541543767e5acdf2ab95b47e1488a1c19b914dacbfc05cb7d2c34597ecaea50", func := "loop.example/g00880/laws.FnExactMulI", spec := "fnExactMulI", inPlace := ["math/bits.Sub64", "math/bits.Add64"], unfollowed := true, recurses := true, named := ["math/bits.divideError", "math/bits.overflowError"], apart := false }
def FnExactMulISaid : Prop := fnExactMulIRow.holds Try.pinned (OpenSpec.ofChange fnExactMulISpec)

/-- ITS FALSE NEIGHBOUR: 'it returns false'. Refute it at one input. -/
def fnExactMulIWrong : ChangeSpec := { name := "fnExactMulI", fn := fun _ => fun
  | [d1, d2] => { results := [.lit (.bool false)], args := [d1, d2] }
  | _ => none }
def FnExactMulIWrongFalsely : Prop := fnExactMulIRow.holds Try.pinned (OpenSpec.ofChange fnExactMulIWrong)

/-- 'laws.FnExactDivI': WHATEVER THE INPUT: true; the input reads as it did. -/
def fnExactDivISpec : ChangeSpec := { name := "fnExactDivI", fn := fun _ => fun
  | [d1, d2] => { results := [.lit (.bool true)], args := [d1, d2] }
  | _ => none }
def fnExactDivIRow : OpenClaim := { program := "ytfikgbamnlmglaa", sum := "d541543767e5acdf2ab95b47e1488a1c19b914dacbfc05cb7d2c34597ecaea50", func := "loop.example/g00880/laws.FnExactDivI", spec := "fnExactDivI", inPlace := ["math/bits.Sub64", "math/bits.Add64"], unfollowed := true, recurses := true, named := ["math/bits.divideError", "math/bits.overflowError"], apart := false }
def FnExactDivISaid : Prop := fnExactDivIRow.holds Try.pinned (OpenSpec.ofChange fnExactDivISpec)

/-- ITS FALSE NEIGHBOUR: 'it returns false'. Refute it at one input. -/
def fnExactDivIWrong : ChangeSpec := { name := "fnExactDivI", fn := fun _ => fun
  | [d1, d2] => { results := [.lit (.bool false)], args := [d1, d2] }
  | _ => none }
def FnExactDivIWrongFalsely : Prop := fnExactDivIRow.holds Try.pinned (OpenSpec.ofChange fnExactDivIWrong)

/-- 'laws.FnExactSqrI': WHATEVER THE INPUT: true; the input reads as it did. -/
def fnExactSqrISpec : ChangeSpec := { name := "fnExactSqrI", fn := fun _ => fun
  | [d] => { results := [.lit (.bool true)], args := [d] }
  | _ => none }
def fnExactSqrIRow : OpenClaim := { program := "ytfikgbamnlmglaa", sum := "d541543767e5acdf2ab95b47e1488a1c19b914dacbfc05cb7d2c34597ecaea50", func := "loop.example/g00880/laws.FnExactSqrI", spec := "fnExactSqrI", inPlace := ["math/bits.Sub64", "math/bits.Add64"], unfollowed := true, recurses := true, named := ["math/bits.divideError", "math/bits.overflowError"], apart := false }
def FnExactSqrISaid : Prop := fnExactSqrIRow.holds Try.pinned (OpenSpec.ofChange fnExactSqrISpec)

/-- ITS FALSE NEIGHBOUR: 'it returns false'. Refute it at one input. -/
def fnExactSqrIWrong : ChangeSpec := { name := "fnExactSqrI", fn := fun _ => fun
  | [d] => { results := [.lit (.bool false)], args := [d] }
  | _ => none }
def FnExactSqrIWrongFalsely : Prop := fnExactSqrIRow.holds Try.pinned (OpenSpec.ofChange fnExactSqrIWrong)

/-- 'laws.FnExactSqrtI': WHATEVER THE INPUT: true; the input reads as it did. -/
def fnExactSqrtISpec : ChangeSpec := { name := "fnExactSqrtI", fn := fun _ => fun
  | [d] => { results := [.lit (.bool true)], args := [d] }
  | _ => none }
def fnExactSqrtIRow : OpenClaim := { program := "ytfikgbamnlmglaa", sum := "d541543767e5acdf2ab95b47e1488a1c19b914dacbfc05cb7d2c34597ecaea50", func := "loop.example/g00880/laws.FnExactSqrtI", spec := "fnExactSqrtI", inPlace := ["math/bits.Sub64"], unfollowed := true, recurses := true, apart := false }
def FnExactSqrtISaid : Prop := fnExactSqrtIRow.holds Try.pinned (OpenSpec.ofChange fnExactSqrtISpec)

/-- ITS FALSE NEIGHBOUR: 'it returns false'. Refute it at one input. -/
def fnExactSqrtIWrong : ChangeSpec := { name := "fnExactSqrtI", fn := fun _ => fun
  | [d] => { results := [.lit (.bool false)], args := [d] }
  | _ => none }
def FnExactSqrtIWrongFalsely : Prop := fnExactSqrtIRow.holds Try.pinned (OpenSpec.ofChange fnExactSqrtIWrong)

/-- 'laws.FnExactAbsI': WHATEVER THE INPUT: true; the input reads as it did. -/
def fnExactAbsISpec : ChangeSpec := { name := "fnExactAbsI", fn := fun _ => fun
  | [d] => { results := [.lit (.bool true)], args := [d] }
  | _ => none }
def fnExactAbsIRow : OpenClaim := { program := "ytfikgbamnlmglaa", sum := "d541543767e5acdf2ab95b47e1488a1c19b914dacbfc05cb7d2c34597ecaea50", func := "loop.example/g00880/laws.FnExactAbsI", spec := "fnExactAbsI", inPlace := ["math/bits.Sub64", "math/bits.Add64"], unfollowed := true, recurses := true, named := ["math/bits.divideError", "math/bits.overflowError"], apart := false }
def FnExactAbsISaid : Prop := fnExactAbsIRow.holds Try.pinned (OpenSpec.ofChange fnExactAbsISpec)

/-- ITS FALSE NEIGHBOUR: 'it returns false'. Refute it at one input. -/
def fnExactAbsIWrong : ChangeSpec := { name := "fnExactAbsI", fn := fun _ => fun
  | [d] => { results := [.lit (.bool false)], args := [d] }
  | _ => none }
def FnExactAbsIWrongFalsely : Prop := fnExactAbsIRow.holds Try.pinned (OpenSpec.ofChange fnExactAbsIWrong)

/-- 'laws.FnExactMinI': WHATEVER THE INPUT: true; the input reads as it did. -/
def fnExactMinISpec : ChangeSpec := { name := "fnExactMinI", fn := fun _ => fun
  | [d1, d2] => { results := [.lit (.bool true)], args := [d1, d2] }
  | _ => none }
def fnExactMinIRow : OpenClaim := { program := "ytfikgbamnlmglaa", sum := "d541543767e5acdf2ab95b47e1488a1c19b914dacbfc05cb7d2c34597ecaea50", func := "loop.example/g00880/laws.FnExactMinI", spec := "fnExactMinI", apart := false }
def FnExactMinISaid : Prop := fnExactMinIRow.holds Try.pinned (OpenSpec.ofChange fnExactMinISpec)

/-- ITS FALSE NEIGHBOUR: 'it returns false'. Refute it at one input. -/
def fnExactMinIWrong : ChangeSpec := { name := "fnExactMinI", fn := fun _ => fun
  | [d1, d2] => { results := [.lit (.bool false)], args := [d1, d2] }
  | _ => none }
def FnExactMinIWrongFalsely : Prop := fnExactMinIRow.holds Try.pinned (OpenSpec.ofChange fnExactMinIWrong)

/-- 'laws.FnExactMaxI': WHATEVER THE INPUT: true; the input reads as it did. -/
def fnExactMaxISpec : ChangeSpec := { name := "fnExactMaxI", fn := fun _ => fun
  | [d1, d2] => { results := [.lit (.bool true)], args := [d1, d2] }
  | _ => none }
def fnExactMaxIRow : OpenClaim := { program := "ytfikgbamnlmglaa", sum := "d541543767e5acdf2ab95b47e1488a1c19b914dacbfc05cb7d2c34597ecaea50", func := "loop.example/g00880/laws.FnExactMaxI", spec := "fnExactMaxI", apart := false }
def FnExactMaxISaid : Prop := fnExactMaxIRow.holds Try.pinned (OpenSpec.ofChange fnExactMaxISpec)

/-- ITS FALSE NEIGHBOUR: 'it returns false'. Refute it at one input. -/
def fnExactMaxIWrong : ChangeSpec := { name := "fnExactMaxI", fn := fun _ => fun
  | [d1, d2] => { results := [.lit (.bool false)], args := [d1, d2] }
  | _ => none }
def FnExactMaxIWrongFalsely : Prop := fnExactMaxIRow.holds Try.pinned (OpenSpec.ofChange fnExactMaxIWrong)

/-- 'laws.FnExactHalfI': WHATEVER THE INPUT: true; the input reads as it did. -/
def fnExactHalfISpec : ChangeSpec := { name := "fnExactHalfI", fn := fun _ => fun
  | [d] => { results := [.lit (.bool true)], args := [d] }
  | _ => none }
def fnExactHalfIRow : OpenClaim := { program := "ytfikgbamnlmglaa", sum := "d541543767e5acdf2ab95b47e1488a1c19b914dacbfc05cb7d2c34597ecaea50", func := "loop.example/g00880/laws.FnExactHalfI", spec := "fnExactHalfI", apart := false }
def FnExactHalfISaid : Prop := fnExactHalfIRow.holds Try.pinned (OpenSpec.ofChange fnExactHalfISpec)

/-- ITS FALSE NEIGHBOUR: 'it returns false'. Refute it at one input. -/
def fnExactHalfIWrong : ChangeSpec := { name := "fnExactHalfI", fn := fun _ => fun
  | [d] => { results := [.lit (.bool false)], args := [d] }
  | _ => none }
def FnExactHalfIWrongFalsely : Prop := fnExactHalfIRow.holds Try.pinned (OpenSpec.ofChange fnExactHalfIWrong)

/-- 'laws.FnExactDoubleI': WHATEVER THE INPUT: true; the input reads as it did. -/
def fnExactDoubleISpec : ChangeSpec := { name := "fnExactDoubleI", fn := fun _ => fun
  | [d] => { results := [.lit (.bool true)], args := [d] }
  | _ => none }
def fnExactDoubleIRow : OpenClaim := { program := "ytfikgbamnlmglaa", sum := "d541543767e5acdf2ab95b47e1488a1c19b914dacbfc05cb7d2c34597ecaea50", func := "loop.example/g00880/laws.FnExactDoubleI", spec := "fnExactDoubleI", apart := false }
def FnExactDoubleISaid : Prop := fnExactDoubleIRow.holds Try.pinned (OpenSpec.ofChange fnExactDoubleISpec)

/-- ITS FALSE NEIGHBOUR: 'it returns false'. Refute it at one input. -/
def fnExactDoubleIWrong : ChangeSpec := { name := "fnExactDoubleI", fn := fun _ => fun
  | [d] => { results := [.lit (.bool false)], args := [d] }
  | _ => none }
def FnExactDoubleIWrongFalsely : Prop := fnExactDoubleIRow.holds Try.pinned (OpenSpec.ofChange fnExactDoubleIWrong)

/-- 'laws.FnExactHullI': WHATEVER THE INPUT: true; the input reads as it did. -/
def fnExactHullISpec : ChangeSpec := { name := "fnExactHullI", fn := fun _ => fun
  | [d1, d2] => { results := [.lit (.bool true)], args := [d1, d2] }
  | _ => none }
def fnExactHullIRow : OpenClaim := { program := "ytfikgbamnlmglaa", sum := "d541543767e5acdf2ab95b47e1488a1c19b914dacbfc05cb7d2c34597ecaea50", func := "loop.example/g00880/laws.FnExactHullI", spec := "fnExactHullI", apart := false }
def FnExactHullISaid : Prop := fnExactHullIRow.holds Try.pinned (OpenSpec.ofChange fnExactHullISpec)

/-- ITS FALSE NEIGHBOUR: 'it returns false'. Refute it at one input. -/
def fnExactHullIWrong : ChangeSpec := { name := "fnExactHullI", fn := fun _ => fun
  | [d1, d2] => { results := [.lit (.bool false)], args := [d1, d2] }
  | _ => none }
def FnExactHullIWrongFalsely : Prop := fnExactHullIRow.holds Try.pinned (OpenSpec.ofChange fnExactHullIWrong)

/-- 'laws.FnExactMeetI': WHATEVER THE INPUT: true; the input reads as it did. -/
def fnExactMeetISpec : ChangeSpec := { name := "fnExactMeetI", fn := fun _ => fun
  | [d1, d2] => { results := [.lit (.bool true)], args := [d1, d2] }
  | _ => none }
def fnExactMeetIRow : OpenClaim := { program := "ytfikgbamnlmglaa", sum := "d541543767e5acdf2ab95b47e1488a1c19b914dacbfc05cb7d2c34597ecaea50", func := "loop.example/g00880/laws.FnExactMeetI", spec := "fnExactMeetI", apart := false }
def FnExactMeetISaid : Prop := fnExactMeetIRow.holds Try.pinned (OpenSpec.ofChange fnExactMeetISpec)

/-- ITS FALSE NEIGHBOUR: 'it returns false'. Refute it at one input. -/
def fnExactMeetIWrong : ChangeSpec := { name := "fnExactMeetI", fn := fun _ => fun
  | [d1, d2] => { results := [.lit (.bool false)], args := [d1, d2] }
  | _ => none }
def FnExactMeetIWrongFalsely : Prop := fnExactMeetIRow.holds Try.pinned (OpenSpec.ofChange fnExactMeetIWrong)

/-- 'laws.FnExactHasI': WHATEVER THE INPUT: true; the input reads as it did. -/
def fnExactHasISpec : ChangeSpec := { name := "fnExactHasI", fn := fun _ => fun
  | [d1, d2] => { results := [.lit (.bool true)], args := [d1, d2] }
  | _ => none }
def fnExactHasIRow : OpenClaim := { program := "ytfikgbamnlmglaa", sum := "d541543767e5acdf2ab95b47e1488a1c19b914dacbfc05cb7d2c34597ecaea50", func := "loop.example/g00880/laws.FnExactHasI", spec := "fnExactHasI", apart := false }
def FnExactHasISaid : Prop := fnExactHasIRow.holds Try.pinned (OpenSpec.ofChange fnExactHasISpec)

/-- ITS FALSE NEIGHBOUR: 'it returns false'. Refute it at one input. -/
def fnExactHasIWrong : ChangeSpec := { name := "fnExactHasI", fn := fun _ => fun
  | [d1, d2] => { results := [.lit (.bool false)], args := [d1, d2] }
  | _ => none }
def FnExactHasIWrongFalsely : Prop := fnExactHasIRow.holds Try.pinned (OpenSpec.ofChange fnExactHasIWrong)

/-- 'laws.FnExactInsideI': WHATEVER THE INPUT: true; the input reads as it did. -/
def fnExactInsideISpec : ChangeSpec := { name := "fnExactInsideI", fn := fun _ => fun
  | [d1, d2] => { results := [.lit (.bool true)], args := [d1, d2] }
  | _ => none }
def fnExactInsideIRow : OpenClaim := { program := "ytfikgbamnlmglaa", sum := "d541543767e5acdf2ab95b47e1488a1c19b914dacbfc05cb7d2c34597ecaea50", func := "loop.example/g00880/laws.FnExactInsideI", spec := "fnExactInsideI", apart := false }
def FnExactInsideISaid : Prop := fnExactInsideIRow.holds Try.pinned (OpenSpec.ofChange fnExactInsideISpec)

/-- ITS FALSE NEIGHBOUR: 'it returns false'. Refute it at one input. -/
def fnExactInsideIWrong : ChangeSpec := { name := "fnExactInsideI", fn := fun _ => fun
  | [d1, d2] => { results := [.lit (.bool false)], args := [d1, d2] }
  | _ => none }
def FnExactInsideIWrongFalsely : Prop := fnExactInsideIRow.holds Try.pinned (OpenSpec.ofChange fnExactInsideIWrong)

/-- 'laws.FnExactOverlapI': WHATEVER THE INPUT: true; the input reads as it did. -/
def fnExactOverlapISpec : ChangeSpec := { name := "fnExactOverlapI", fn := fun _ => fun
  | [d1, d2] => { results := [.lit (.bool true)], args := [d1, d2] }
  | _ => none }
def fnExactOverlapIRow : OpenClaim := { program := "ytfikgbamnlmglaa", sum := "d541543767e5acdf2ab95b47e1488a1c19b914dacbfc05cb7d2c34597ecaea50", func := "loop.example/g00880/laws.FnExactOverlapI", spec := "fnExactOverlapI", apart := false }
def FnExactOverlapISaid : Prop := fnExactOverlapIRow.holds Try.pinned (OpenSpec.ofChange fnExactOverlapISpec)

/-- ITS FALSE NEIGHBOUR: 'it returns false'. Refute it at one input. -/
def fnExactOverlapIWrong : ChangeSpec := { name := "fnExactOverlapI", fn := fun _ => fun
  | [d1, d2] => { results := [.lit (.bool false)], args := [d1, d2] }
  | _ => none }
def FnExactOverlapIWrongFalsely : Prop := fnExactOverlapIRow.holds Try.pinned (OpenSpec.ofChange fnExactOverlapIWrong)

/-- 'laws.FnExactLessI': WHATEVER THE INPUT: true; the input reads as it did. -/
def fnExactLessISpec : ChangeSpec := { name := "fnExactLessI", fn := fun _ => fun
  | [d1, d2] => { results := [.lit (.bool true)], args := [d1, d2] }
  | _ => none }
def fnExactLessIRow : OpenClaim := { program := "ytfikgbamnlmglaa", sum := "d541543767e5acdf2ab95b47e1488a1c19b914dacbfc05cb7d2c34597ecaea50", func := "loop.example/g00880/laws.FnExactLessI", spec := "fnExactLessI", apart := false }
def FnExactLessISaid : Prop := fnExactLessIRow.holds Try.pinned (OpenSpec.ofChange fnExactLessISpec)

/-- ITS FALSE NEIGHBOUR: 'it returns false'. Refute it at one input. -/
def fnExactLessIWrong : ChangeSpec := { name := "fnExactLessI", fn := fun _ => fun
  | [d1, d2] => { results := [.lit (.bool false)], args := [d1, d2] }
  | _ => none }
def FnExactLessIWrongFalsely : Prop := fnExactLessIRow.holds Try.pinned (OpenSpec.ofChange fnExactLessIWrong)

/-- 'laws.FnExactWidthI': WHATEVER THE INPUT: true; the input reads as it did. -/
def fnExactWidthISpec : ChangeSpec := { name := "fnExactWidthI", fn := fun _ => fun
  | [d] => { results := [.lit (.bool true)], args := [d] }
  | _ => none }
def fnExactWidthIRow : OpenClaim := { program := "ytfikgbamnlmglaa", sum := "d541543767e5acdf2ab95b47e1488a1c19b914dacbfc05cb7d2c34597ecaea50", func := "loop.example/g00880/laws.FnExactWidthI", spec := "fnExactWidthI", apart := false }
def FnExactWidthISaid : Prop := fnExactWidthIRow.holds Try.pinned (OpenSpec.ofChange fnExactWidthISpec)

/-- ITS FALSE NEIGHBOUR: 'it returns false'. Refute it at one input. -/
def fnExactWidthIWrong : ChangeSpec := { name := "fnExactWidthI", fn := fun _ => fun
  | [d] => { results := [.lit (.bool false)], args := [d] }
  | _ => none }
def FnExactWidthIWrongFalsely : Prop := fnExactWidthIRow.holds Try.pinned (OpenSpec.ofChange fnExactWidthIWrong)

/-- 'laws.FnExactMidI': WHATEVER THE INPUT: true; the input reads as it did. -/
def fnExactMidISpec : ChangeSpec := { name := "fnExactMidI", fn := fun _ => fun
  | [d] => { results := [.lit (.bool true)], args := [d] }
  | _ => none }
def fnExactMidIRow : OpenClaim := { program := "ytfikgbamnlmglaa", sum := "d541543767e5acdf2ab95b47e1488a1c19b914dacbfc05cb7d2c34597ecaea50", func := "loop.example/g00880/laws.FnExactMidI", spec := "fnExactMidI", apart := false }
def FnExactMidISaid : Prop := fnExactMidIRow.holds Try.pinned (OpenSpec.ofChange fnExactMidISpec)

/-- ITS FALSE NEIGHBOUR: 'it returns false'. Refute it at one input. -/
def fnExactMidIWrong : ChangeSpec := { name := "fnExactMidI", fn := fun _ => fun
  | [d] => { results := [.lit (.bool false)], args := [d] }
  | _ => none }
def FnExactMidIWrongFalsely : Prop := fnExactMidIRow.holds Try.pinned (OpenSpec.ofChange fnExactMidIWrong)

/- THE SECOND FORM. 'bulk': how many values and letters a reading holds, each counted each time it is reached (what is shared counts as often as it is met; a slice's spare places count too). A statement '..UptoSaid' is the law's where the arguments, and the package variables that the reading takes, are together of bulk at most 1048576: NARROWER than '..Said'. Prove '..Said' where nothing that the law and all that it calls make is longer than what came in: it says more and counts as full. Else prove '..UptoSaid'. A law counts once. -/
mutual
def uptoBulk {H : Type} : DataW H → Nat
  | .lit (.string bytes) => bytes.length + 1
  | .lit _ => 1
  | .nil => 1
  | .ptr d => uptoBulk d + 1
  | .slice elems spare => uptoBulkAll elems + uptoBulkAll spare + 1
  | .agg parts => uptoBulkAll parts + 1
  | .iface _ d => uptoBulk d + 1
  | .map entries => uptoBulkEntries entries + 1
  | .held _ => 1
def uptoBulkAll {H : Type} : List (DataW H) → Nat
  | [] => 0
  | d :: r => uptoBulk d + uptoBulkAll r
def uptoBulkEntries {H : Type} : List (Lit × DataW H) → Nat
  | [] => 0
  | x :: r => uptoBulkEntry x + uptoBulkEntries r
def uptoBulkEntry {H : Type} : Lit × DataW H → Nat
  | (.string bytes, d) => bytes.length + uptoBulk d + 1
  | (_, d) => uptoBulk d + 1
 end
def uptoSmall : (H : Type) → List (DataW H) → Bool := fun _ ds => decide (uptoBulkAll ds ≤ 1048576)
def OpenSpec.upto (s : _root_.Go.ChangeSpec) : _root_.Go.OpenSpec := { _root_.Go.OpenSpec.ofChange s with cond := some uptoSmall }

/-- 'laws.FnExactValidFix', WHERE WHAT IT READS IS OF BULK AT MOST 1048576: true; the input reads as it did. -/
def fnExactValidFixUptoRow : OpenClaim := { program := "ytfikgbamnlmglaa", sum := "d541543767e5acdf2ab95b47e1488a1c19b914dacbfc05cb7d2c34597ecaea50", func := "loop.example/g00880/laws.FnExactValidFix", spec := "fnExactValidFix", apart := false, narrowed := true }
def FnExactValidFixUptoSaid : Prop := fnExactValidFixUptoRow.holds Try.pinned (OpenSpec.upto fnExactValidFixSpec)

/-- 'laws.FnExactFixFloor', WHERE WHAT IT READS IS OF BULK AT MOST 1048576: true; the input reads as it did. -/
def fnExactFixFloorUptoRow : OpenClaim := { program := "ytfikgbamnlmglaa", sum := "d541543767e5acdf2ab95b47e1488a1c19b914dacbfc05cb7d2c34597ecaea50", func := "loop.example/g00880/laws.FnExactFixFloor", spec := "fnExactFixFloor", inPlace := ["math/bits.Sub64"], unfollowed := true, recurses := true, named := ["math/bits.divideError", "math/bits.overflowError"], apart := false, narrowed := true }
def FnExactFixFloorUptoSaid : Prop := fnExactFixFloorUptoRow.holds Try.pinned (OpenSpec.upto fnExactFixFloorSpec)

/-- 'laws.FnExactFixCeil', WHERE WHAT IT READS IS OF BULK AT MOST 1048576: true; the input reads as it did. -/
def fnExactFixCeilUptoRow : OpenClaim := { program := "ytfikgbamnlmglaa", sum := "d541543767e5acdf2ab95b47e1488a1c19b914dacbfc05cb7d2c34597ecaea50", func := "loop.example/g00880/laws.FnExactFixCeil", spec := "fnExactFixCeil", inPlace := ["math/bits.Sub64", "math/bits.Add64"], unfollowed := true, recurses := true, named := ["math/bits.divideError", "math/bits.overflowError"], apart := false, narrowed := true }
def FnExactFixCeilUptoSaid : Prop := fnExactFixCeilUptoRow.holds Try.pinned (OpenSpec.upto fnExactFixCeilSpec)

/-- 'laws.FnExactMulDown', WHERE WHAT IT READS IS OF BULK AT MOST 1048576: true; the input reads as it did. -/
def fnExactMulDownUptoRow : OpenClaim := { program := "ytfikgbamnlmglaa", sum := "d541543767e5acdf2ab95b47e1488a1c19b914dacbfc05cb7d2c34597ecaea50", func := "loop.example/g00880/laws.FnExactMulDown", spec := "fnExactMulDown", inPlace := ["math/bits.Sub64"], unfollowed := true, recurses := true, named := ["math/bits.divideError", "math/bits.overflowError"], apart := false, narrowed := true }
def FnExactMulDownUptoSaid : Prop := fnExactMulDownUptoRow.holds Try.pinned (OpenSpec.upto fnExactMulDownSpec)

/-- 'laws.FnExactMulUp', WHERE WHAT IT READS IS OF BULK AT MOST 1048576: true; the input reads as it did. -/
def fnExactMulUpUptoRow : OpenClaim := { program := "ytfikgbamnlmglaa", sum := "d541543767e5acdf2ab95b47e1488a1c19b914dacbfc05cb7d2c34597ecaea50", func := "loop.example/g00880/laws.FnExactMulUp", spec := "fnExactMulUp", inPlace := ["math/bits.Sub64", "math/bits.Add64"], unfollowed := true, recurses := true, named := ["math/bits.divideError", "math/bits.overflowError"], apart := false, narrowed := true }
def FnExactMulUpUptoSaid : Prop := fnExactMulUpUptoRow.holds Try.pinned (OpenSpec.upto fnExactMulUpSpec)

/-- 'laws.FnExactDivDown', WHERE WHAT IT READS IS OF BULK AT MOST 1048576: true; the input reads as it did. -/
def fnExactDivDownUptoRow : OpenClaim := { program := "ytfikgbamnlmglaa", sum := "d541543767e5acdf2ab95b47e1488a1c19b914dacbfc05cb7d2c34597ecaea50", func := "loop.example/g00880/laws.FnExactDivDown", spec := "fnExactDivDown", inPlace := ["math/bits.Sub64"], unfollowed := true, recurses := true, named := ["math/bits.divideError", "math/bits.overflowError"], apart := false, narrowed := true }
def FnExactDivDownUptoSaid : Prop := fnExactDivDownUptoRow.holds Try.pinned (OpenSpec.upto fnExactDivDownSpec)

/-- 'laws.FnExactDivUp', WHERE WHAT IT READS IS OF BULK AT MOST 1048576: true; the input reads as it did. -/
def fnExactDivUpUptoRow : OpenClaim := { program := "ytfikgbamnlmglaa", sum := "d541543767e5acdf2ab95b47e1488a1c19b914dacbfc05cb7d2c34597ecaea50", func := "loop.example/g00880/laws.FnExactDivUp", spec := "fnExactDivUp", inPlace := ["math/bits.Sub64", "math/bits.Add64"], unfollowed := true, recurses := true, named := ["math/bits.divideError", "math/bits.overflowError"], apart := false, narrowed := true }
def FnExactDivUpUptoSaid : Prop := fnExactDivUpUptoRow.holds Try.pinned (OpenSpec.upto fnExactDivUpSpec)

/-- 'laws.FnExactSqrtDown', WHERE WHAT IT READS IS OF BULK AT MOST 1048576: true; the input reads as it did. -/
def fnExactSqrtDownUptoRow : OpenClaim := { program := "ytfikgbamnlmglaa", sum := "d541543767e5acdf2ab95b47e1488a1c19b914dacbfc05cb7d2c34597ecaea50", func := "loop.example/g00880/laws.FnExactSqrtDown", spec := "fnExactSqrtDown", inPlace := ["math/bits.Sub64"], unfollowed := true, recurses := true, apart := false, narrowed := true }
def FnExactSqrtDownUptoSaid : Prop := fnExactSqrtDownUptoRow.holds Try.pinned (OpenSpec.upto fnExactSqrtDownSpec)

/-- 'laws.FnExactSqrtUp', WHERE WHAT IT READS IS OF BULK AT MOST 1048576: true; the input reads as it did. -/
def fnExactSqrtUpUptoRow : OpenClaim := { program := "ytfikgbamnlmglaa", sum := "d541543767e5acdf2ab95b47e1488a1c19b914dacbfc05cb7d2c34597ecaea50", func := "loop.example/g00880/laws.FnExactSqrtUp", spec := "fnExactSqrtUp", inPlace := ["math/bits.Sub64"], unfollowed := true, recurses := true, apart := false, narrowed := true }
def FnExactSqrtUpUptoSaid : Prop := fnExactSqrtUpUptoRow.holds Try.pinned (OpenSpec.upto fnExactSqrtUpSpec)

/-- 'laws.FnExactWhole', WHERE WHAT IT READS IS OF BULK AT MOST 1048576: true; the input reads as it did. -/
def fnExactWholeUptoRow : OpenClaim := { program := "ytfikgbamnlmglaa", sum := "d541543767e5acdf2ab95b47e1488a1c19b914dacbfc05cb7d2c34597ecaea50", func := "loop.example/g00880/laws.FnExactWhole", spec := "fnExactWhole", apart := false, narrowed := true }
def FnExactWholeUptoSaid : Prop := fnExactWholeUptoRow.holds Try.pinned (OpenSpec.upto fnExactWholeSpec)

/-- 'laws.FnExactValidInterval', WHERE WHAT IT READS IS OF BULK AT MOST 1048576: true; the input reads as it did. -/
def fnExactValidIntervalUptoRow : OpenClaim := { program := "ytfikgbamnlmglaa", sum := "d541543767e5acdf2ab95b47e1488a1c19b914dacbfc05cb7d2c34597ecaea50", func := "loop.example/g00880/laws.FnExactValidInterval", spec := "fnExactValidInterval", apart := false, narrowed := true }
def FnExactValidIntervalUptoSaid : Prop := fnExactValidIntervalUptoRow.holds Try.pinned (OpenSpec.upto fnExactValidIntervalSpec)

/-- 'laws.FnExactIsWhole', WHERE WHAT IT READS IS OF BULK AT MOST 1048576: true; the input reads as it did. -/
def fnExactIsWholeUptoRow : OpenClaim := { program := "ytfikgbamnlmglaa", sum := "d541543767e5acdf2ab95b47e1488a1c19b914dacbfc05cb7d2c34597ecaea50", func := "loop.example/g00880/laws.FnExactIsWhole", spec := "fnExactIsWhole", apart := false, narrowed := true }
def FnExactIsWholeUptoSaid : Prop := fnExactIsWholeUptoRow.holds Try.pinned (OpenSpec.upto fnExactIsWholeSpec)

/-- 'laws.FnExactInteger', WHERE WHAT IT READS IS OF BULK AT MOST 1048576: true; the input reads as it did. -/
def fnExactIntegerUptoRow : OpenClaim := { program := "ytfikgbamnlmglaa", sum := "d541543767e5acdf2ab95b47e1488a1c19b914dacbfc05cb7d2c34597ecaea50", func := "loop.example/g00880/laws.FnExactInteger", spec := "fnExactInteger", inPlace := ["math/bits.Sub64", "math/bits.Add64"], unfollowed := true, recurses := true, named := ["math/bits.divideError", "math/bits.overflowError"], apart := false, narrowed := true }
def FnExactIntegerUptoSaid : Prop := fnExactIntegerUptoRow.holds Try.pinned (OpenSpec.upto fnExactIntegerSpec)

/-- 'laws.FnExactQuotient', WHERE WHAT IT READS IS OF BULK AT MOST 1048576: true; the input reads as it did. -/
def fnExactQuotientUptoRow : OpenClaim := { program := "ytfikgbamnlmglaa", sum := "d541543767e5acdf2ab95b47e1488a1c19b914dacbfc05cb7d2c34597ecaea50", func := "loop.example/g00880/laws.FnExactQuotient", spec := "fnExactQuotient", inPlace := ["math/bits.Sub64", "math/bits.Add64"], unfollowed := true, recurses := true, named := ["math/bits.divideError", "math/bits.overflowError"], apart := false, narrowed := true }
def FnExactQuotientUptoSaid : Prop := fnExactQuotientUptoRow.holds Try.pinned (OpenSpec.upto fnExactQuotientSpec)

/-- 'laws.FnExactAddI', WHERE WHAT IT READS IS OF BULK AT MOST 1048576: true; the input reads as it did. -/
def fnExactAddIUptoRow : OpenClaim := { program := "ytfikgbamnlmglaa", sum := "d541543767e5acdf2ab95b47e1488a1c19b914dacbfc05cb7d2c34597ecaea50", func := "loop.example/g00880/laws.FnExactAddI", spec := "fnExactAddI", apart := false, narrowed := true }
def FnExactAddIUptoSaid : Prop := fnExactAddIUptoRow.holds Try.pinned (OpenSpec.upto fnExactAddISpec)

/-- 'laws.FnExactSubI', WHERE WHAT IT READS IS OF BULK AT MOST 1048576: true; the input reads as it did. -/
def fnExactSubIUptoRow : OpenClaim := { program := "ytfikgbamnlmglaa", sum := "d541543767e5acdf2ab95b47e1488a1c19b914dacbfc05cb7d2c34597ecaea50", func := "loop.example/g00880/laws.FnExactSubI", spec := "fnExactSubI", apart := false, narrowed := true }
def FnExactSubIUptoSaid : Prop := fnExactSubIUptoRow.holds Try.pinned (OpenSpec.upto fnExactSubISpec)

/-- 'laws.FnExactNegI', WHERE WHAT IT READS IS OF BULK AT MOST 1048576: true; the input reads as it did. -/
def fnExactNegIUptoRow : OpenClaim := { program := "ytfikgbamnlmglaa", sum := "d541543767e5acdf2ab95b47e1488a1c19b914dacbfc05cb7d2c34597ecaea50", func := "loop.example/g00880/laws.FnExactNegI", spec := "fnExactNegI", apart := false, narrowed := true }
def FnExactNegIUptoSaid : Prop := fnExactNegIUptoRow.holds Try.pinned (OpenSpec.upto fnExactNegISpec)

/-- 'laws.FnExactMulI', WHERE WHAT IT READS IS OF BULK AT MOST 1048576: true; the input reads as it did. -/
def fnExactMulIUptoRow : OpenClaim := { program := "ytfikgbamnlmglaa", sum := "d541543767e5acdf2ab95b47e1488a1c19b914dacbfc05cb7d2c34597ecaea50", func := "loop.example/g00880/laws.FnExactMulI", spec := "fnExactMulI", inPlace := ["math/bits.Sub64", "math/bits.Add64"], unfollowed := true, recurses := true, named := ["math/bits.divideError", "math/bits.overflowError"], apart := false, narrowed := true }
def FnExactMulIUptoSaid : Prop := fnExactMulIUptoRow.holds Try.pinned (OpenSpec.upto fnExactMulISpec)

/-- 'laws.FnExactDivI', WHERE WHAT IT READS IS OF BULK AT MOST 1048576: true; the input reads as it did. -/
def fnExactDivIUptoRow : OpenClaim := { program := "ytfikgbamnlmglaa", sum := "d541543767e5acdf2ab95b47e1488a1c19b914dacbfc05cb7d2c34597ecaea50", func := "loop.example/g00880/laws.FnExactDivI", spec := "fnExactDivI", inPlace := ["math/bits.Sub64", "math/bits.Add64"], unfollowed := true, recurses := true, named := ["math/bits.divideError", "math/bits.overflowError"], apart := false, narrowed := true }
def FnExactDivIUptoSaid : Prop := fnExactDivIUptoRow.holds Try.pinned (OpenSpec.upto fnExactDivISpec)

/-- 'laws.FnExactSqrI', WHERE WHAT IT READS IS OF BULK AT MOST 1048576: true; the input reads as it did. -/
def fnExactSqrIUptoRow : OpenClaim := { program := "ytfikgbamnlmglaa", sum := "d541543767e5acdf2ab95b47e1488a1c19b914dacbfc05cb7d2c34597ecaea50", func := "loop.example/g00880/laws.FnExactSqrI", spec := "fnExactSqrI", inPlace := ["math/bits.Sub64", "math/bits.Add64"], unfollowed := true, recurses := true, named := ["math/bits.divideError", "math/bits.overflowError"], apart := false, narrowed := true }
def FnExactSqrIUptoSaid : Prop := fnExactSqrIUptoRow.holds Try.pinned (OpenSpec.upto fnExactSqrISpec)

/-- 'laws.FnExactSqrtI', WHERE WHAT IT READS IS OF BULK AT MOST 1048576: true; the input reads as it did. -/
def fnExactSqrtIUptoRow : OpenClaim := { program := "ytfikgbamnlmglaa", sum := "d541543767e5acdf2ab95b47e1488a1c19b914dacbfc05cb7d2c34597ecaea50", func := "loop.example/g00880/laws.FnExactSqrtI", spec := "fnExactSqrtI", inPlace := ["math/bits.Sub64"], unfollowed := true, recurses := true, apart := false, narrowed := true }
def FnExactSqrtIUptoSaid : Prop := fnExactSqrtIUptoRow.holds Try.pinned (OpenSpec.upto fnExactSqrtISpec)

/-- 'laws.FnExactAbsI', WHERE WHAT IT READS IS OF BULK AT MOST 1048576: true; the input reads as it did. -/
def fnExactAbsIUptoRow : OpenClaim := { program := "ytfikgbamnlmglaa", sum := "d541543767e5acdf2ab95b47e1488a1c19b914dacbfc05cb7d2c34597ecaea50", func := "loop.example/g00880/laws.FnExactAbsI", spec := "fnExactAbsI", inPlace := ["math/bits.Sub64", "math/bits.Add64"], unfollowed := true, recurses := true, named := ["math/bits.divideError", "math/bits.overflowError"], apart := false, narrowed := true }
def FnExactAbsIUptoSaid : Prop := fnExactAbsIUptoRow.holds Try.pinned (OpenSpec.upto fnExactAbsISpec)

/-- 'laws.FnExactMinI', WHERE WHAT IT READS IS OF BULK AT MOST 1048576: true; the input reads as it did. -/
def fnExactMinIUptoRow : OpenClaim := { program := "ytfikgbamnlmglaa", sum := "d541543767e5acdf2ab95b47e1488a1c19b914dacbfc05cb7d2c34597ecaea50", func := "loop.example/g00880/laws.FnExactMinI", spec := "fnExactMinI", apart := false, narrowed := true }
def FnExactMinIUptoSaid : Prop := fnExactMinIUptoRow.holds Try.pinned (OpenSpec.upto fnExactMinISpec)

/-- 'laws.FnExactMaxI', WHERE WHAT IT READS IS OF BULK AT MOST 1048576: true; the input reads as it did. -/
def fnExactMaxIUptoRow : OpenClaim := { program := "ytfikgbamnlmglaa", sum := "d541543767e5acdf2ab95b47e1488a1c19b914dacbfc05cb7d2c34597ecaea50", func := "loop.example/g00880/laws.FnExactMaxI", spec := "fnExactMaxI", apart := false, narrowed := true }
def FnExactMaxIUptoSaid : Prop := fnExactMaxIUptoRow.holds Try.pinned (OpenSpec.upto fnExactMaxISpec)

/-- 'laws.FnExactHalfI', WHERE WHAT IT READS IS OF BULK AT MOST 1048576: true; the input reads as it did. -/
def fnExactHalfIUptoRow : OpenClaim := { program := "ytfikgbamnlmglaa", sum := "d541543767e5acdf2ab95b47e1488a1c19b914dacbfc05cb7d2c34597ecaea50", func := "loop.example/g00880/laws.FnExactHalfI", spec := "fnExactHalfI", apart := false, narrowed := true }
def FnExactHalfIUptoSaid : Prop := fnExactHalfIUptoRow.holds Try.pinned (OpenSpec.upto fnExactHalfISpec)

/-- 'laws.FnExactDoubleI', WHERE WHAT IT READS IS OF BULK AT MOST 1048576: true; the input reads as it did. -/
def fnExactDoubleIUptoRow : OpenClaim := { program := "ytfikgbamnlmglaa", sum := "d541543767e5acdf2ab95b47e1488a1c19b914dacbfc05cb7d2c34597ecaea50", func := "loop.example/g00880/laws.FnExactDoubleI", spec := "fnExactDoubleI", apart := false, narrowed := true }
def FnExactDoubleIUptoSaid : Prop := fnExactDoubleIUptoRow.holds Try.pinned (OpenSpec.upto fnExactDoubleISpec)

/-- 'laws.FnExactHullI', WHERE WHAT IT READS IS OF BULK AT MOST 1048576: true; the input reads as it did. -/
def fnExactHullIUptoRow : OpenClaim := { program := "ytfikgbamnlmglaa", sum := "d541543767e5acdf2ab95b47e1488a1c19b914dacbfc05cb7d2c34597ecaea50", func := "loop.example/g00880/laws.FnExactHullI", spec := "fnExactHullI", apart := false, narrowed := true }
def FnExactHullIUptoSaid : Prop := fnExactHullIUptoRow.holds Try.pinned (OpenSpec.upto fnExactHullISpec)

/-- 'laws.FnExactMeetI', WHERE WHAT IT READS IS OF BULK AT MOST 1048576: true; the input reads as it did. -/
def fnExactMeetIUptoRow : OpenClaim := { program := "ytfikgbamnlmglaa", sum := "d541543767e5acdf2ab95b47e1488a1c19b914dacbfc05cb7d2c34597ecaea50", func := "loop.example/g00880/laws.FnExactMeetI", spec := "fnExactMeetI", apart := false, narrowed := true }
def FnExactMeetIUptoSaid : Prop := fnExactMeetIUptoRow.holds Try.pinned (OpenSpec.upto fnExactMeetISpec)

/-- 'laws.FnExactHasI', WHERE WHAT IT READS IS OF BULK AT MOST 1048576: true; the input reads as it did. -/
def fnExactHasIUptoRow : OpenClaim := { program := "ytfikgbamnlmglaa", sum := "d541543767e5acdf2ab95b47e1488a1c19b914dacbfc05cb7d2c34597ecaea50", func := "loop.example/g00880/laws.FnExactHasI", spec := "fnExactHasI", apart := false, narrowed := true }
def FnExactHasIUptoSaid : Prop := fnExactHasIUptoRow.holds Try.pinned (OpenSpec.upto fnExactHasISpec)

/-- 'laws.FnExactInsideI', WHERE WHAT IT READS IS OF BULK AT MOST 1048576: true; the input reads as it did. -/
def fnExactInsideIUptoRow : OpenClaim := { program := "ytfikgbamnlmglaa", sum := "d541543767e5acdf2ab95b47e1488a1c19b914dacbfc05cb7d2c34597ecaea50", func := "loop.example/g00880/laws.FnExactInsideI", spec := "fnExactInsideI", apart := false, narrowed := true }
def FnExactInsideIUptoSaid : Prop := fnExactInsideIUptoRow.holds Try.pinned (OpenSpec.upto fnExactInsideISpec)

/-- 'laws.FnExactOverlapI', WHERE WHAT IT READS IS OF BULK AT MOST 1048576: true; the input reads as it did. -/
def fnExactOverlapIUptoRow : OpenClaim := { program := "ytfikgbamnlmglaa", sum := "d541543767e5acdf2ab95b47e1488a1c19b914dacbfc05cb7d2c34597ecaea50", func := "loop.example/g00880/laws.FnExactOverlapI", spec := "fnExactOverlapI", apart := false, narrowed := true }
def FnExactOverlapIUptoSaid : Prop := fnExactOverlapIUptoRow.holds Try.pinned (OpenSpec.upto fnExactOverlapISpec)

/-- 'laws.FnExactLessI', WHERE WHAT IT READS IS OF BULK AT MOST 1048576: true; the input reads as it did. -/
def fnExactLessIUptoRow : OpenClaim := { program := "ytfikgbamnlmglaa", sum := "d541543767e5acdf2ab95b47e1488a1c19b914dacbfc05cb7d2c34597ecaea50", func := "loop.example/g00880/laws.FnExactLessI", spec := "fnExactLessI", apart := false, narrowed := true }
def FnExactLessIUptoSaid : Prop := fnExactLessIUptoRow.holds Try.pinned (OpenSpec.upto fnExactLessISpec)

/-- 'laws.FnExactWidthI', WHERE WHAT IT READS IS OF BULK AT MOST 1048576: true; the input reads as it did. -/
def fnExactWidthIUptoRow : OpenClaim := { program := "ytfikgbamnlmglaa", sum := "d541543767e5acdf2ab95b47e1488a1c19b914dacbfc05cb7d2c34597ecaea50", func := "loop.example/g00880/laws.FnExactWidthI", spec := "fnExactWidthI", apart := false, narrowed := true }
def FnExactWidthIUptoSaid : Prop := fnExactWidthIUptoRow.holds Try.pinned (OpenSpec.upto fnExactWidthISpec)

/-- 'laws.FnExactMidI', WHERE WHAT IT READS IS OF BULK AT MOST 1048576: true; the input reads as it did. -/
def fnExactMidIUptoRow : OpenClaim := { program := "ytfikgbamnlmglaa", sum := "d541543767e5acdf2ab95b47e1488a1c19b914dacbfc05cb7d2c34597ecaea50", func := "loop.example/g00880/laws.FnExactMidI", spec := "fnExactMidI", apart := false, narrowed := true }
def FnExactMidIUptoSaid : Prop := fnExactMidIUptoRow.holds Try.pinned (OpenSpec.upto fnExactMidISpec)

end Rows
end Go.Proofs.Ytfikgbamnlmglaa
