/-
  No cell of these rows narrows 'for every input' (looked for: loops, veiled, ifaces, maps, wideKeys, modest, calm, conditions, laid).
  DERIVED. THE GIVEN ROWS OF THIS SEAT. 25 by the template 'for every input the law returns true; each argument reads behind the call as it read before'; 0 by the template 'total and deterministic' (their statements: YtmikjgbojknlnaaTotals.lean).
  GIVEN WITH THE SEED: the statements are not yours to turn. If you find one false, say at which input.
  Laid BY PROGRAM, IN A SANDBOX (cutbox-rows.mjs): the forced cells as the released guide's own fill.sh prints them over the translation 3860d4912a315d07… (all of the seat's roots in one cut). By AI agents, Wed Nov 11 2026. No macro, syntax, notation, axiom, sorry.
-/
import Derived.Test.YtmikjgbojknlnaaChecked
import GoSem.Claim
import GoSem.ClaimJoined
import GoSem.ClaimMapViews
import Derived.JoinedTies
import Derived.KernelRfl
namespace Go.Proofs.Ytmikjgbojknlnaa
/- THE CELL 'sum', in the pinned program and in every row, IS THE sha256 OF THE DUMP (.gsa) THAT YtmikjgbojknlnaaProg.lean LOADS. Nothing in Lean hashes anything: it is a label: what it is worth is what the hold of that sum in a sandbox is worth. -/
noncomputable def Try.pinned : Pinned := { name := "ytmikjgbojknlnaa", sum := "3860d4912a315d07bde1eaa466705d4d8a8b5b8c63d017744a74ce647e8eb9ef", checked := Try.checked }
namespace Rows
def none {H : Type} : Left H := { results := [], args := [] }

/-- 'laws.FnExactValidPoly': WHATEVER THE INPUT: true; the input reads as it did. -/
def fnExactValidPolySpec : ChangeSpec := { name := "fnExactValidPoly", fn := fun _ => fun
  | [d] => { results := [.lit (.bool true)], args := [d] }
  | _ => none }
def fnExactValidPolyRow : OpenClaim := { program := "ytmikjgbojknlnaa", sum := "3860d4912a315d07bde1eaa466705d4d8a8b5b8c63d017744a74ce647e8eb9ef", func := "loop.example/g00880/laws.FnExactValidPoly", spec := "fnExactValidPoly", apart := false }
def FnExactValidPolySaid : Prop := fnExactValidPolyRow.holds Try.pinned (OpenSpec.ofChange fnExactValidPolySpec)

/-- ITS FALSE NEIGHBOUR: 'it returns false'. Refute it at one input. -/
def fnExactValidPolyWrong : ChangeSpec := { name := "fnExactValidPoly", fn := fun _ => fun
  | [d] => { results := [.lit (.bool false)], args := [d] }
  | _ => none }
def FnExactValidPolyWrongFalsely : Prop := fnExactValidPolyRow.holds Try.pinned (OpenSpec.ofChange fnExactValidPolyWrong)

/-- 'laws.FnExactPolyAt': WHATEVER THE INPUT: true; the input reads as it did. -/
def fnExactPolyAtSpec : ChangeSpec := { name := "fnExactPolyAt", fn := fun _ => fun
  | [d1, d2] => { results := [.lit (.bool true)], args := [d1, d2] }
  | _ => none }
def fnExactPolyAtRow : OpenClaim := { program := "ytmikjgbojknlnaa", sum := "3860d4912a315d07bde1eaa466705d4d8a8b5b8c63d017744a74ce647e8eb9ef", func := "loop.example/g00880/laws.FnExactPolyAt", spec := "fnExactPolyAt", inPlace := ["math/bits.Sub64", "math/bits.Add64"], unfollowed := true, recurses := true, named := ["math/bits.divideError", "math/bits.overflowError"], apart := false }
def FnExactPolyAtSaid : Prop := fnExactPolyAtRow.holds Try.pinned (OpenSpec.ofChange fnExactPolyAtSpec)

/-- ITS FALSE NEIGHBOUR: 'it returns false'. Refute it at one input. -/
def fnExactPolyAtWrong : ChangeSpec := { name := "fnExactPolyAt", fn := fun _ => fun
  | [d1, d2] => { results := [.lit (.bool false)], args := [d1, d2] }
  | _ => none }
def FnExactPolyAtWrongFalsely : Prop := fnExactPolyAtRow.holds Try.pinned (OpenSpec.ofChange fnExactPolyAtWrong)

/-- 'laws.FnExactPolyDerivative': WHATEVER THE INPUT: true; the input reads as it did. -/
def fnExactPolyDerivativeSpec : ChangeSpec := { name := "fnExactPolyDerivative", fn := fun _ => fun
  | [d] => { results := [.lit (.bool true)], args := [d] }
  | _ => none }
def fnExactPolyDerivativeRow : OpenClaim := { program := "ytmikjgbojknlnaa", sum := "3860d4912a315d07bde1eaa466705d4d8a8b5b8c63d017744a74ce647e8eb9ef", func := "loop.example/g00880/laws.FnExactPolyDerivative", spec := "fnExactPolyDerivative", inPlace := ["math/bits.Sub64", "math/bits.Add64"], unfollowed := true, recurses := true, named := ["math/bits.divideError", "math/bits.overflowError"], apart := false }
def FnExactPolyDerivativeSaid : Prop := fnExactPolyDerivativeRow.holds Try.pinned (OpenSpec.ofChange fnExactPolyDerivativeSpec)

/-- ITS FALSE NEIGHBOUR: 'it returns false'. Refute it at one input. -/
def fnExactPolyDerivativeWrong : ChangeSpec := { name := "fnExactPolyDerivative", fn := fun _ => fun
  | [d] => { results := [.lit (.bool false)], args := [d] }
  | _ => none }
def FnExactPolyDerivativeWrongFalsely : Prop := fnExactPolyDerivativeRow.holds Try.pinned (OpenSpec.ofChange fnExactPolyDerivativeWrong)

/-- 'laws.FnExactAddPolys': WHATEVER THE INPUT: true; the input reads as it did. -/
def fnExactAddPolysSpec : ChangeSpec := { name := "fnExactAddPolys", fn := fun _ => fun
  | [d1, d2] => { results := [.lit (.bool true)], args := [d1, d2] }
  | _ => none }
def fnExactAddPolysRow : OpenClaim := { program := "ytmikjgbojknlnaa", sum := "3860d4912a315d07bde1eaa466705d4d8a8b5b8c63d017744a74ce647e8eb9ef", func := "loop.example/g00880/laws.FnExactAddPolys", spec := "fnExactAddPolys", unfollowed := true, recurses := true, apart := false }
def FnExactAddPolysSaid : Prop := fnExactAddPolysRow.holds Try.pinned (OpenSpec.ofChange fnExactAddPolysSpec)

/-- ITS FALSE NEIGHBOUR: 'it returns false'. Refute it at one input. -/
def fnExactAddPolysWrong : ChangeSpec := { name := "fnExactAddPolys", fn := fun _ => fun
  | [d1, d2] => { results := [.lit (.bool false)], args := [d1, d2] }
  | _ => none }
def FnExactAddPolysWrongFalsely : Prop := fnExactAddPolysRow.holds Try.pinned (OpenSpec.ofChange fnExactAddPolysWrong)

/-- 'laws.FnExactMulPolys': WHATEVER THE INPUT: true; the input reads as it did. -/
def fnExactMulPolysSpec : ChangeSpec := { name := "fnExactMulPolys", fn := fun _ => fun
  | [d1, d2] => { results := [.lit (.bool true)], args := [d1, d2] }
  | _ => none }
def fnExactMulPolysRow : OpenClaim := { program := "ytmikjgbojknlnaa", sum := "3860d4912a315d07bde1eaa466705d4d8a8b5b8c63d017744a74ce647e8eb9ef", func := "loop.example/g00880/laws.FnExactMulPolys", spec := "fnExactMulPolys", inPlace := ["math/bits.Sub64", "math/bits.Add64"], unfollowed := true, recurses := true, named := ["math/bits.divideError", "math/bits.overflowError"], apart := false }
def FnExactMulPolysSaid : Prop := fnExactMulPolysRow.holds Try.pinned (OpenSpec.ofChange fnExactMulPolysSpec)

/-- ITS FALSE NEIGHBOUR: 'it returns false'. Refute it at one input. -/
def fnExactMulPolysWrong : ChangeSpec := { name := "fnExactMulPolys", fn := fun _ => fun
  | [d1, d2] => { results := [.lit (.bool false)], args := [d1, d2] }
  | _ => none }
def FnExactMulPolysWrongFalsely : Prop := fnExactMulPolysRow.holds Try.pinned (OpenSpec.ofChange fnExactMulPolysWrong)

/-- 'laws.FnExactSignI': WHATEVER THE INPUT: true; the input reads as it did. -/
def fnExactSignISpec : ChangeSpec := { name := "fnExactSignI", fn := fun _ => fun
  | [d] => { results := [.lit (.bool true)], args := [d] }
  | _ => none }
def fnExactSignIRow : OpenClaim := { program := "ytmikjgbojknlnaa", sum := "3860d4912a315d07bde1eaa466705d4d8a8b5b8c63d017744a74ce647e8eb9ef", func := "loop.example/g00880/laws.FnExactSignI", spec := "fnExactSignI", apart := false }
def FnExactSignISaid : Prop := fnExactSignIRow.holds Try.pinned (OpenSpec.ofChange fnExactSignISpec)

/-- ITS FALSE NEIGHBOUR: 'it returns false'. Refute it at one input. -/
def fnExactSignIWrong : ChangeSpec := { name := "fnExactSignI", fn := fun _ => fun
  | [d] => { results := [.lit (.bool false)], args := [d] }
  | _ => none }
def FnExactSignIWrongFalsely : Prop := fnExactSignIRow.holds Try.pinned (OpenSpec.ofChange fnExactSignIWrong)

/-- 'laws.FnExactSignChange': WHATEVER THE INPUT: true; the input reads as it did. -/
def fnExactSignChangeSpec : ChangeSpec := { name := "fnExactSignChange", fn := fun _ => fun
  | [d1, d2] => { results := [.lit (.bool true)], args := [d1, d2] }
  | _ => none }
def fnExactSignChangeRow : OpenClaim := { program := "ytmikjgbojknlnaa", sum := "3860d4912a315d07bde1eaa466705d4d8a8b5b8c63d017744a74ce647e8eb9ef", func := "loop.example/g00880/laws.FnExactSignChange", spec := "fnExactSignChange", inPlace := ["math/bits.Sub64", "math/bits.Add64"], unfollowed := true, recurses := true, named := ["math/bits.divideError", "math/bits.overflowError"], apart := false }
def FnExactSignChangeSaid : Prop := fnExactSignChangeRow.holds Try.pinned (OpenSpec.ofChange fnExactSignChangeSpec)

/-- ITS FALSE NEIGHBOUR: 'it returns false'. Refute it at one input. -/
def fnExactSignChangeWrong : ChangeSpec := { name := "fnExactSignChange", fn := fun _ => fun
  | [d1, d2] => { results := [.lit (.bool false)], args := [d1, d2] }
  | _ => none }
def FnExactSignChangeWrongFalsely : Prop := fnExactSignChangeRow.holds Try.pinned (OpenSpec.ofChange fnExactSignChangeWrong)

/-- 'laws.FnExactUniqueRoot': WHATEVER THE INPUT: true; the input reads as it did. -/
def fnExactUniqueRootSpec : ChangeSpec := { name := "fnExactUniqueRoot", fn := fun _ => fun
  | [d1, d2] => { results := [.lit (.bool true)], args := [d1, d2] }
  | _ => none }
def fnExactUniqueRootRow : OpenClaim := { program := "ytmikjgbojknlnaa", sum := "3860d4912a315d07bde1eaa466705d4d8a8b5b8c63d017744a74ce647e8eb9ef", func := "loop.example/g00880/laws.FnExactUniqueRoot", spec := "fnExactUniqueRoot", inPlace := ["math/bits.Sub64", "math/bits.Add64"], unfollowed := true, recurses := true, named := ["math/bits.divideError", "math/bits.overflowError"], apart := false }
def FnExactUniqueRootSaid : Prop := fnExactUniqueRootRow.holds Try.pinned (OpenSpec.ofChange fnExactUniqueRootSpec)

/-- ITS FALSE NEIGHBOUR: 'it returns false'. Refute it at one input. -/
def fnExactUniqueRootWrong : ChangeSpec := { name := "fnExactUniqueRoot", fn := fun _ => fun
  | [d1, d2] => { results := [.lit (.bool false)], args := [d1, d2] }
  | _ => none }
def FnExactUniqueRootWrongFalsely : Prop := fnExactUniqueRootRow.holds Try.pinned (OpenSpec.ofChange fnExactUniqueRootWrong)

/-- 'laws.FnExactBisectRoot': WHATEVER THE INPUT: true; the input reads as it did. -/
def fnExactBisectRootSpec : ChangeSpec := { name := "fnExactBisectRoot", fn := fun _ => fun
  | [d1, d2, d3] => { results := [.lit (.bool true)], args := [d1, d2, d3] }
  | _ => none }
def fnExactBisectRootRow : OpenClaim := { program := "ytmikjgbojknlnaa", sum := "3860d4912a315d07bde1eaa466705d4d8a8b5b8c63d017744a74ce647e8eb9ef", func := "loop.example/g00880/laws.FnExactBisectRoot", spec := "fnExactBisectRoot", inPlace := ["math/bits.Sub64", "math/bits.Add64"], unfollowed := true, recurses := true, named := ["math/bits.divideError", "math/bits.overflowError"], apart := false }
def FnExactBisectRootSaid : Prop := fnExactBisectRootRow.holds Try.pinned (OpenSpec.ofChange fnExactBisectRootSpec)

/-- ITS FALSE NEIGHBOUR: 'it returns false'. Refute it at one input. -/
def fnExactBisectRootWrong : ChangeSpec := { name := "fnExactBisectRoot", fn := fun _ => fun
  | [d1, d2, d3] => { results := [.lit (.bool false)], args := [d1, d2, d3] }
  | _ => none }
def FnExactBisectRootWrongFalsely : Prop := fnExactBisectRootRow.holds Try.pinned (OpenSpec.ofChange fnExactBisectRootWrong)

/-- 'laws.FnExactSameVec': WHATEVER THE INPUT: true; the input reads as it did. -/
def fnExactSameVecSpec : ChangeSpec := { name := "fnExactSameVec", fn := fun _ => fun
  | [d1, d2] => { results := [.lit (.bool true)], args := [d1, d2] }
  | _ => none }
def fnExactSameVecRow : OpenClaim := { program := "ytmikjgbojknlnaa", sum := "3860d4912a315d07bde1eaa466705d4d8a8b5b8c63d017744a74ce647e8eb9ef", func := "loop.example/g00880/laws.FnExactSameVec", spec := "fnExactSameVec", apart := false }
def FnExactSameVecSaid : Prop := fnExactSameVecRow.holds Try.pinned (OpenSpec.ofChange fnExactSameVecSpec)

/-- ITS FALSE NEIGHBOUR: 'it returns false'. Refute it at one input. -/
def fnExactSameVecWrong : ChangeSpec := { name := "fnExactSameVec", fn := fun _ => fun
  | [d1, d2] => { results := [.lit (.bool false)], args := [d1, d2] }
  | _ => none }
def FnExactSameVecWrongFalsely : Prop := fnExactSameVecRow.holds Try.pinned (OpenSpec.ofChange fnExactSameVecWrong)

/-- 'laws.FnExactAddV': WHATEVER THE INPUT: true; the input reads as it did. -/
def fnExactAddVSpec : ChangeSpec := { name := "fnExactAddV", fn := fun _ => fun
  | [d1, d2] => { results := [.lit (.bool true)], args := [d1, d2] }
  | _ => none }
def fnExactAddVRow : OpenClaim := { program := "ytmikjgbojknlnaa", sum := "3860d4912a315d07bde1eaa466705d4d8a8b5b8c63d017744a74ce647e8eb9ef", func := "loop.example/g00880/laws.FnExactAddV", spec := "fnExactAddV", unfollowed := true, recurses := true, apart := false }
def FnExactAddVSaid : Prop := fnExactAddVRow.holds Try.pinned (OpenSpec.ofChange fnExactAddVSpec)

/-- ITS FALSE NEIGHBOUR: 'it returns false'. Refute it at one input. -/
def fnExactAddVWrong : ChangeSpec := { name := "fnExactAddV", fn := fun _ => fun
  | [d1, d2] => { results := [.lit (.bool false)], args := [d1, d2] }
  | _ => none }
def FnExactAddVWrongFalsely : Prop := fnExactAddVRow.holds Try.pinned (OpenSpec.ofChange fnExactAddVWrong)

/-- 'laws.FnExactSubV': WHATEVER THE INPUT: true; the input reads as it did. -/
def fnExactSubVSpec : ChangeSpec := { name := "fnExactSubV", fn := fun _ => fun
  | [d1, d2] => { results := [.lit (.bool true)], args := [d1, d2] }
  | _ => none }
def fnExactSubVRow : OpenClaim := { program := "ytmikjgbojknlnaa", sum := "3860d4912a315d07bde1eaa466705d4d8a8b5b8c63d017744a74ce647e8eb9ef", func := "loop.example/g00880/laws.FnExactSubV", spec := "fnExactSubV", unfollowed := true, recurses := true, apart := false }
def FnExactSubVSaid : Prop := fnExactSubVRow.holds Try.pinned (OpenSpec.ofChange fnExactSubVSpec)

/-- ITS FALSE NEIGHBOUR: 'it returns false'. Refute it at one input. -/
def fnExactSubVWrong : ChangeSpec := { name := "fnExactSubV", fn := fun _ => fun
  | [d1, d2] => { results := [.lit (.bool false)], args := [d1, d2] }
  | _ => none }
def FnExactSubVWrongFalsely : Prop := fnExactSubVRow.holds Try.pinned (OpenSpec.ofChange fnExactSubVWrong)

/-- 'laws.FnExactScaleV': WHATEVER THE INPUT: true; the input reads as it did. -/
def fnExactScaleVSpec : ChangeSpec := { name := "fnExactScaleV", fn := fun _ => fun
  | [d1, d2] => { results := [.lit (.bool true)], args := [d1, d2] }
  | _ => none }
def fnExactScaleVRow : OpenClaim := { program := "ytmikjgbojknlnaa", sum := "3860d4912a315d07bde1eaa466705d4d8a8b5b8c63d017744a74ce647e8eb9ef", func := "loop.example/g00880/laws.FnExactScaleV", spec := "fnExactScaleV", inPlace := ["math/bits.Sub64", "math/bits.Add64"], unfollowed := true, recurses := true, named := ["math/bits.divideError", "math/bits.overflowError"], apart := false }
def FnExactScaleVSaid : Prop := fnExactScaleVRow.holds Try.pinned (OpenSpec.ofChange fnExactScaleVSpec)

/-- ITS FALSE NEIGHBOUR: 'it returns false'. Refute it at one input. -/
def fnExactScaleVWrong : ChangeSpec := { name := "fnExactScaleV", fn := fun _ => fun
  | [d1, d2] => { results := [.lit (.bool false)], args := [d1, d2] }
  | _ => none }
def FnExactScaleVWrongFalsely : Prop := fnExactScaleVRow.holds Try.pinned (OpenSpec.ofChange fnExactScaleVWrong)

/-- 'laws.FnExactDotV': WHATEVER THE INPUT: true; the input reads as it did. -/
def fnExactDotVSpec : ChangeSpec := { name := "fnExactDotV", fn := fun _ => fun
  | [d1, d2] => { results := [.lit (.bool true)], args := [d1, d2] }
  | _ => none }
def fnExactDotVRow : OpenClaim := { program := "ytmikjgbojknlnaa", sum := "3860d4912a315d07bde1eaa466705d4d8a8b5b8c63d017744a74ce647e8eb9ef", func := "loop.example/g00880/laws.FnExactDotV", spec := "fnExactDotV", inPlace := ["math/bits.Sub64", "math/bits.Add64"], unfollowed := true, recurses := true, named := ["math/bits.divideError", "math/bits.overflowError"], apart := false }
def FnExactDotVSaid : Prop := fnExactDotVRow.holds Try.pinned (OpenSpec.ofChange fnExactDotVSpec)

/-- ITS FALSE NEIGHBOUR: 'it returns false'. Refute it at one input. -/
def fnExactDotVWrong : ChangeSpec := { name := "fnExactDotV", fn := fun _ => fun
  | [d1, d2] => { results := [.lit (.bool false)], args := [d1, d2] }
  | _ => none }
def FnExactDotVWrongFalsely : Prop := fnExactDotVRow.holds Try.pinned (OpenSpec.ofChange fnExactDotVWrong)

/-- 'laws.FnExactCrossV': WHATEVER THE INPUT: true; the input reads as it did. -/
def fnExactCrossVSpec : ChangeSpec := { name := "fnExactCrossV", fn := fun _ => fun
  | [d1, d2] => { results := [.lit (.bool true)], args := [d1, d2] }
  | _ => none }
def fnExactCrossVRow : OpenClaim := { program := "ytmikjgbojknlnaa", sum := "3860d4912a315d07bde1eaa466705d4d8a8b5b8c63d017744a74ce647e8eb9ef", func := "loop.example/g00880/laws.FnExactCrossV", spec := "fnExactCrossV", inPlace := ["math/bits.Sub64", "math/bits.Add64"], unfollowed := true, recurses := true, named := ["math/bits.divideError", "math/bits.overflowError"], apart := false }
def FnExactCrossVSaid : Prop := fnExactCrossVRow.holds Try.pinned (OpenSpec.ofChange fnExactCrossVSpec)

/-- ITS FALSE NEIGHBOUR: 'it returns false'. Refute it at one input. -/
def fnExactCrossVWrong : ChangeSpec := { name := "fnExactCrossV", fn := fun _ => fun
  | [d1, d2] => { results := [.lit (.bool false)], args := [d1, d2] }
  | _ => none }
def FnExactCrossVWrongFalsely : Prop := fnExactCrossVRow.holds Try.pinned (OpenSpec.ofChange fnExactCrossVWrong)

/-- 'laws.FnExactNormV': WHATEVER THE INPUT: true; the input reads as it did. -/
def fnExactNormVSpec : ChangeSpec := { name := "fnExactNormV", fn := fun _ => fun
  | [d] => { results := [.lit (.bool true)], args := [d] }
  | _ => none }
def fnExactNormVRow : OpenClaim := { program := "ytmikjgbojknlnaa", sum := "3860d4912a315d07bde1eaa466705d4d8a8b5b8c63d017744a74ce647e8eb9ef", func := "loop.example/g00880/laws.FnExactNormV", spec := "fnExactNormV", inPlace := ["math/bits.Sub64", "math/bits.Add64"], unfollowed := true, recurses := true, named := ["math/bits.divideError", "math/bits.overflowError"], apart := false }
def FnExactNormVSaid : Prop := fnExactNormVRow.holds Try.pinned (OpenSpec.ofChange fnExactNormVSpec)

/-- ITS FALSE NEIGHBOUR: 'it returns false'. Refute it at one input. -/
def fnExactNormVWrong : ChangeSpec := { name := "fnExactNormV", fn := fun _ => fun
  | [d] => { results := [.lit (.bool false)], args := [d] }
  | _ => none }
def FnExactNormVWrongFalsely : Prop := fnExactNormVRow.holds Try.pinned (OpenSpec.ofChange fnExactNormVWrong)

/-- 'laws.FnExactUnitV': WHATEVER THE INPUT: true; the input reads as it did. -/
def fnExactUnitVSpec : ChangeSpec := { name := "fnExactUnitV", fn := fun _ => fun
  | [d] => { results := [.lit (.bool true)], args := [d] }
  | _ => none }
def fnExactUnitVRow : OpenClaim := { program := "ytmikjgbojknlnaa", sum := "3860d4912a315d07bde1eaa466705d4d8a8b5b8c63d017744a74ce647e8eb9ef", func := "loop.example/g00880/laws.FnExactUnitV", spec := "fnExactUnitV", inPlace := ["math/bits.Sub64", "math/bits.Add64"], unfollowed := true, recurses := true, named := ["math/bits.divideError", "math/bits.overflowError"], apart := false }
def FnExactUnitVSaid : Prop := fnExactUnitVRow.holds Try.pinned (OpenSpec.ofChange fnExactUnitVSpec)

/-- ITS FALSE NEIGHBOUR: 'it returns false'. Refute it at one input. -/
def fnExactUnitVWrong : ChangeSpec := { name := "fnExactUnitV", fn := fun _ => fun
  | [d] => { results := [.lit (.bool false)], args := [d] }
  | _ => none }
def FnExactUnitVWrongFalsely : Prop := fnExactUnitVRow.holds Try.pinned (OpenSpec.ofChange fnExactUnitVWrong)

/-- 'laws.FnExactOverlapV': WHATEVER THE INPUT: true; the input reads as it did. -/
def fnExactOverlapVSpec : ChangeSpec := { name := "fnExactOverlapV", fn := fun _ => fun
  | [d1, d2] => { results := [.lit (.bool true)], args := [d1, d2] }
  | _ => none }
def fnExactOverlapVRow : OpenClaim := { program := "ytmikjgbojknlnaa", sum := "3860d4912a315d07bde1eaa466705d4d8a8b5b8c63d017744a74ce647e8eb9ef", func := "loop.example/g00880/laws.FnExactOverlapV", spec := "fnExactOverlapV", apart := false }
def FnExactOverlapVSaid : Prop := fnExactOverlapVRow.holds Try.pinned (OpenSpec.ofChange fnExactOverlapVSpec)

/-- ITS FALSE NEIGHBOUR: 'it returns false'. Refute it at one input. -/
def fnExactOverlapVWrong : ChangeSpec := { name := "fnExactOverlapV", fn := fun _ => fun
  | [d1, d2] => { results := [.lit (.bool false)], args := [d1, d2] }
  | _ => none }
def FnExactOverlapVWrongFalsely : Prop := fnExactOverlapVRow.holds Try.pinned (OpenSpec.ofChange fnExactOverlapVWrong)

/-- 'laws.FnExactApplyM': WHATEVER THE INPUT: true; the input reads as it did. -/
def fnExactApplyMSpec : ChangeSpec := { name := "fnExactApplyM", fn := fun _ => fun
  | [d1, d2] => { results := [.lit (.bool true)], args := [d1, d2] }
  | _ => none }
def fnExactApplyMRow : OpenClaim := { program := "ytmikjgbojknlnaa", sum := "3860d4912a315d07bde1eaa466705d4d8a8b5b8c63d017744a74ce647e8eb9ef", func := "loop.example/g00880/laws.FnExactApplyM", spec := "fnExactApplyM", inPlace := ["math/bits.Sub64", "math/bits.Add64"], unfollowed := true, recurses := true, named := ["math/bits.divideError", "math/bits.overflowError"], apart := false }
def FnExactApplyMSaid : Prop := fnExactApplyMRow.holds Try.pinned (OpenSpec.ofChange fnExactApplyMSpec)

/-- ITS FALSE NEIGHBOUR: 'it returns false'. Refute it at one input. -/
def fnExactApplyMWrong : ChangeSpec := { name := "fnExactApplyM", fn := fun _ => fun
  | [d1, d2] => { results := [.lit (.bool false)], args := [d1, d2] }
  | _ => none }
def FnExactApplyMWrongFalsely : Prop := fnExactApplyMRow.holds Try.pinned (OpenSpec.ofChange fnExactApplyMWrong)

/-- 'laws.FnExactMulM': WHATEVER THE INPUT: true; the input reads as it did. -/
def fnExactMulMSpec : ChangeSpec := { name := "fnExactMulM", fn := fun _ => fun
  | [d1, d2] => { results := [.lit (.bool true)], args := [d1, d2] }
  | _ => none }
def fnExactMulMRow : OpenClaim := { program := "ytmikjgbojknlnaa", sum := "3860d4912a315d07bde1eaa466705d4d8a8b5b8c63d017744a74ce647e8eb9ef", func := "loop.example/g00880/laws.FnExactMulM", spec := "fnExactMulM", inPlace := ["math/bits.Sub64", "math/bits.Add64"], unfollowed := true, recurses := true, named := ["math/bits.divideError", "math/bits.overflowError"], apart := false }
def FnExactMulMSaid : Prop := fnExactMulMRow.holds Try.pinned (OpenSpec.ofChange fnExactMulMSpec)

/-- ITS FALSE NEIGHBOUR: 'it returns false'. Refute it at one input. -/
def fnExactMulMWrong : ChangeSpec := { name := "fnExactMulM", fn := fun _ => fun
  | [d1, d2] => { results := [.lit (.bool false)], args := [d1, d2] }
  | _ => none }
def FnExactMulMWrongFalsely : Prop := fnExactMulMRow.holds Try.pinned (OpenSpec.ofChange fnExactMulMWrong)

/-- 'laws.FnExactInverseM': WHATEVER THE INPUT: true; the input reads as it did. -/
def fnExactInverseMSpec : ChangeSpec := { name := "fnExactInverseM", fn := fun _ => fun
  | [d] => { results := [.lit (.bool true)], args := [d] }
  | _ => none }
def fnExactInverseMRow : OpenClaim := { program := "ytmikjgbojknlnaa", sum := "3860d4912a315d07bde1eaa466705d4d8a8b5b8c63d017744a74ce647e8eb9ef", func := "loop.example/g00880/laws.FnExactInverseM", spec := "fnExactInverseM", inPlace := ["math/bits.Sub64", "math/bits.Add64"], unfollowed := true, recurses := true, named := ["math/bits.divideError", "math/bits.overflowError"], apart := false }
def FnExactInverseMSaid : Prop := fnExactInverseMRow.holds Try.pinned (OpenSpec.ofChange fnExactInverseMSpec)

/-- ITS FALSE NEIGHBOUR: 'it returns false'. Refute it at one input. -/
def fnExactInverseMWrong : ChangeSpec := { name := "fnExactInverseM", fn := fun _ => fun
  | [d] => { results := [.lit (.bool false)], args := [d] }
  | _ => none }
def FnExactInverseMWrongFalsely : Prop := fnExactInverseMRow.holds Try.pinned (OpenSpec.ofChange fnExactInverseMWrong)

/-- 'laws.FnExactRootsIn': WHATEVER THE INPUT: true; the input reads as it did. -/
def fnExactRootsInSpec : ChangeSpec := { name := "fnExactRootsIn", fn := fun _ => fun
  | [d1, d2, d3] => { results := [.lit (.bool true)], args := [d1, d2, d3] }
  | _ => none }
def fnExactRootsInRow : OpenClaim := { program := "ytmikjgbojknlnaa", sum := "3860d4912a315d07bde1eaa466705d4d8a8b5b8c63d017744a74ce647e8eb9ef", func := "loop.example/g00880/laws.FnExactRootsIn", spec := "fnExactRootsIn", inPlace := ["math/bits.Sub64", "math/bits.Add64"], unfollowed := true, recurses := true, named := ["math/bits.divideError", "math/bits.overflowError"], apart := false }
def FnExactRootsInSaid : Prop := fnExactRootsInRow.holds Try.pinned (OpenSpec.ofChange fnExactRootsInSpec)

/-- ITS FALSE NEIGHBOUR: 'it returns false'. Refute it at one input. -/
def fnExactRootsInWrong : ChangeSpec := { name := "fnExactRootsIn", fn := fun _ => fun
  | [d1, d2, d3] => { results := [.lit (.bool false)], args := [d1, d2, d3] }
  | _ => none }
def FnExactRootsInWrongFalsely : Prop := fnExactRootsInRow.holds Try.pinned (OpenSpec.ofChange fnExactRootsInWrong)

/-- 'laws.FnExactSqrtDown': WHATEVER THE INPUT: true; the input reads as it did. -/
def fnExactSqrtDownSpec : ChangeSpec := { name := "fnExactSqrtDown", fn := fun _ => fun
  | [d] => { results := [.lit (.bool true)], args := [d] }
  | _ => none }
def fnExactSqrtDownRow : OpenClaim := { program := "ytmikjgbojknlnaa", sum := "3860d4912a315d07bde1eaa466705d4d8a8b5b8c63d017744a74ce647e8eb9ef", func := "loop.example/g00880/laws.FnExactSqrtDown", spec := "fnExactSqrtDown", inPlace := ["math/bits.Sub64"], unfollowed := true, recurses := true, apart := false }
def FnExactSqrtDownSaid : Prop := fnExactSqrtDownRow.holds Try.pinned (OpenSpec.ofChange fnExactSqrtDownSpec)

/-- ITS FALSE NEIGHBOUR: 'it returns false'. Refute it at one input. -/
def fnExactSqrtDownWrong : ChangeSpec := { name := "fnExactSqrtDown", fn := fun _ => fun
  | [d] => { results := [.lit (.bool false)], args := [d] }
  | _ => none }
def FnExactSqrtDownWrongFalsely : Prop := fnExactSqrtDownRow.holds Try.pinned (OpenSpec.ofChange fnExactSqrtDownWrong)

/-- 'laws.FnExactSqrtUp': WHATEVER THE INPUT: true; the input reads as it did. -/
def fnExactSqrtUpSpec : ChangeSpec := { name := "fnExactSqrtUp", fn := fun _ => fun
  | [d] => { results := [.lit (.bool true)], args := [d] }
  | _ => none }
def fnExactSqrtUpRow : OpenClaim := { program := "ytmikjgbojknlnaa", sum := "3860d4912a315d07bde1eaa466705d4d8a8b5b8c63d017744a74ce647e8eb9ef", func := "loop.example/g00880/laws.FnExactSqrtUp", spec := "fnExactSqrtUp", inPlace := ["math/bits.Sub64"], unfollowed := true, recurses := true, apart := false }
def FnExactSqrtUpSaid : Prop := fnExactSqrtUpRow.holds Try.pinned (OpenSpec.ofChange fnExactSqrtUpSpec)

/-- ITS FALSE NEIGHBOUR: 'it returns false'. Refute it at one input. -/
def fnExactSqrtUpWrong : ChangeSpec := { name := "fnExactSqrtUp", fn := fun _ => fun
  | [d] => { results := [.lit (.bool false)], args := [d] }
  | _ => none }
def FnExactSqrtUpWrongFalsely : Prop := fnExactSqrtUpRow.holds Try.pinned (OpenSpec.ofChange fnExactSqrtUpWrong)

/-- 'laws.FnExactSqrtI': WHATEVER THE INPUT: true; the input reads as it did. -/
def fnExactSqrtISpec : ChangeSpec := { name := "fnExactSqrtI", fn := fun _ => fun
  | [d] => { results := [.lit (.bool true)], args := [d] }
  | _ => none }
def fnExactSqrtIRow : OpenClaim := { program := "ytmikjgbojknlnaa", sum := "3860d4912a315d07bde1eaa466705d4d8a8b5b8c63d017744a74ce647e8eb9ef", func := "loop.example/g00880/laws.FnExactSqrtI", spec := "fnExactSqrtI", inPlace := ["math/bits.Sub64"], unfollowed := true, recurses := true, apart := false }
def FnExactSqrtISaid : Prop := fnExactSqrtIRow.holds Try.pinned (OpenSpec.ofChange fnExactSqrtISpec)

/-- ITS FALSE NEIGHBOUR: 'it returns false'. Refute it at one input. -/
def fnExactSqrtIWrong : ChangeSpec := { name := "fnExactSqrtI", fn := fun _ => fun
  | [d] => { results := [.lit (.bool false)], args := [d] }
  | _ => none }
def FnExactSqrtIWrongFalsely : Prop := fnExactSqrtIRow.holds Try.pinned (OpenSpec.ofChange fnExactSqrtIWrong)

/- THE SECOND FORM. 'bulk': how many values and letters a reading holds, each counted each time it is reached (what is shared counts as often as it is met; a slice's spare places count too). A statement '..UptoSaid' is the law's where the arguments, and the package variables that the reading takes, are together of bulk at most 1048576: NARROWER than '..Said'. Prove '..Said' where nothing that the law and all that it calls make is longer than what came in: it says more and counts as full. Else prove '..UptoSaid'. A law counts once. -/
mutual
def uptoBulk {H : Type} : DataW H → Nat
  | .lit (.string bytes) => bytes.length + 1
  | .lit _ => 1
  | .nil => 1
  | .ptr d => uptoBulk d + 1
  | .slice elems spare => uptoBulkAll elems + uptoBulkAll spare + 1
  | .agg parts => uptoBulkAll parts + 1
  | .iface _ d => uptoBulk d + 1
  | .map entries => uptoBulkEntries entries + 1
  | .held _ => 1
def uptoBulkAll {H : Type} : List (DataW H) → Nat
  | [] => 0
  | d :: r => uptoBulk d + uptoBulkAll r
def uptoBulkEntries {H : Type} : List (Lit × DataW H) → Nat
  | [] => 0
  | x :: r => uptoBulkEntry x + uptoBulkEntries r
def uptoBulkEntry {H : Type} : Lit × DataW H → Nat
  | (.string bytes, d) => bytes.length + uptoBulk d + 1
  | (_, d) => uptoBulk d + 1
 end
def uptoSmall : (H : Type) → List (DataW H) → Bool := fun _ ds => decide (uptoBulkAll ds ≤ 1048576)
def OpenSpec.upto (s : _root_.Go.ChangeSpec) : _root_.Go.OpenSpec := { _root_.Go.OpenSpec.ofChange s with cond := some uptoSmall }

/-- 'laws.FnExactValidPoly', WHERE WHAT IT READS IS OF BULK AT MOST 1048576: true; the input reads as it did. -/
def fnExactValidPolyUptoRow : OpenClaim := { program := "ytmikjgbojknlnaa", sum := "3860d4912a315d07bde1eaa466705d4d8a8b5b8c63d017744a74ce647e8eb9ef", func := "loop.example/g00880/laws.FnExactValidPoly", spec := "fnExactValidPoly", apart := false, narrowed := true }
def FnExactValidPolyUptoSaid : Prop := fnExactValidPolyUptoRow.holds Try.pinned (OpenSpec.upto fnExactValidPolySpec)

/-- 'laws.FnExactPolyAt', WHERE WHAT IT READS IS OF BULK AT MOST 1048576: true; the input reads as it did. -/
def fnExactPolyAtUptoRow : OpenClaim := { program := "ytmikjgbojknlnaa", sum := "3860d4912a315d07bde1eaa466705d4d8a8b5b8c63d017744a74ce647e8eb9ef", func := "loop.example/g00880/laws.FnExactPolyAt", spec := "fnExactPolyAt", inPlace := ["math/bits.Sub64", "math/bits.Add64"], unfollowed := true, recurses := true, named := ["math/bits.divideError", "math/bits.overflowError"], apart := false, narrowed := true }
def FnExactPolyAtUptoSaid : Prop := fnExactPolyAtUptoRow.holds Try.pinned (OpenSpec.upto fnExactPolyAtSpec)

/-- 'laws.FnExactPolyDerivative', WHERE WHAT IT READS IS OF BULK AT MOST 1048576: true; the input reads as it did. -/
def fnExactPolyDerivativeUptoRow : OpenClaim := { program := "ytmikjgbojknlnaa", sum := "3860d4912a315d07bde1eaa466705d4d8a8b5b8c63d017744a74ce647e8eb9ef", func := "loop.example/g00880/laws.FnExactPolyDerivative", spec := "fnExactPolyDerivative", inPlace := ["math/bits.Sub64", "math/bits.Add64"], unfollowed := true, recurses := true, named := ["math/bits.divideError", "math/bits.overflowError"], apart := false, narrowed := true }
def FnExactPolyDerivativeUptoSaid : Prop := fnExactPolyDerivativeUptoRow.holds Try.pinned (OpenSpec.upto fnExactPolyDerivativeSpec)

/-- 'laws.FnExactAddPolys', WHERE WHAT IT READS IS OF BULK AT MOST 1048576: true; the input reads as it did. -/
def fnExactAddPolysUptoRow : OpenClaim := { program := "ytmikjgbojknlnaa", sum := "3860d4912a315d07bde1eaa466705d4d8a8b5b8c63d017744a74ce647e8eb9ef", func := "loop.example/g00880/laws.FnExactAddPolys", spec := "fnExactAddPolys", unfollowed := true, recurses := true, apart := false, narrowed := true }
def FnExactAddPolysUptoSaid : Prop := fnExactAddPolysUptoRow.holds Try.pinned (OpenSpec.upto fnExactAddPolysSpec)

/-- 'laws.FnExactMulPolys', WHERE WHAT IT READS IS OF BULK AT MOST 1048576: true; the input reads as it did. -/
def fnExactMulPolysUptoRow : OpenClaim := { program := "ytmikjgbojknlnaa", sum := "3860d4912a315d07bde1eaa466705d4d8a8b5b8c63d017744a74ce647e8eb9ef", func := "loop.example/g00880/laws.FnExactMulPolys", spec := "fnExactMulPolys", inPlace := ["math/bits.Sub64", "math/bits.Add64"], unfollowed := true, recurses := true, named := ["math/bits.divideError", "math/bits.overflowError"], apart := false, narrowed := true }
def FnExactMulPolysUptoSaid : Prop := fnExactMulPolysUptoRow.holds Try.pinned (OpenSpec.upto fnExactMulPolysSpec)

/-- 'laws.FnExactSignI', WHERE WHAT IT READS IS OF BULK AT MOST 1048576: true; the input reads as it did. -/
def fnExactSignIUptoRow : OpenClaim := { program := "ytmikjgbojknlnaa", sum := "3860d4912a315d07bde1eaa466705d4d8a8b5b8c63d017744a74ce647e8eb9ef", func := "loop.example/g00880/laws.FnExactSignI", spec := "fnExactSignI", apart := false, narrowed := true }
def FnExactSignIUptoSaid : Prop := fnExactSignIUptoRow.holds Try.pinned (OpenSpec.upto fnExactSignISpec)

/-- 'laws.FnExactSignChange', WHERE WHAT IT READS IS OF BULK AT MOST 1048576: true; the input reads as it did. -/
def fnExactSignChangeUptoRow : OpenClaim := { program := "ytmikjgbojknlnaa", sum := "3860d4912a315d07bde1eaa466705d4d8a8b5b8c63d017744a74ce647e8eb9ef", func := "loop.example/g00880/laws.FnExactSignChange", spec := "fnExactSignChange", inPlace := ["math/bits.Sub64", "math/bits.Add64"], unfollowed := true, recurses := true, named := ["math/bits.divideError", "math/bits.overflowError"], apart := false, narrowed := true }
def FnExactSignChangeUptoSaid : Prop := fnExactSignChangeUptoRow.holds Try.pinned (OpenSpec.upto fnExactSignChangeSpec)

/-- 'laws.FnExactUniqueRoot', WHERE WHAT IT READS IS OF BULK AT MOST 1048576: true; the input reads as it did. -/
def fnExactUniqueRootUptoRow : OpenClaim := { program := "ytmikjgbojknlnaa", sum := "3860d4912a315d07bde1eaa466705d4d8a8b5b8c63d017744a74ce647e8eb9ef", func := "loop.example/g00880/laws.FnExactUniqueRoot", spec := "fnExactUniqueRoot", inPlace := ["math/bits.Sub64", "math/bits.Add64"], unfollowed := true, recurses := true, named := ["math/bits.divideError", "math/bits.overflowError"], apart := false, narrowed := true }
def FnExactUniqueRootUptoSaid : Prop := fnExactUniqueRootUptoRow.holds Try.pinned (OpenSpec.upto fnExactUniqueRootSpec)

/-- 'laws.FnExactBisectRoot', WHERE WHAT IT READS IS OF BULK AT MOST 1048576: true; the input reads as it did. -/
def fnExactBisectRootUptoRow : OpenClaim := { program := "ytmikjgbojknlnaa", sum := "3860d4912a315d07bde1eaa466705d4d8a8b5b8c63d017744a74ce647e8eb9ef", func := "loop.example/g00880/laws.FnExactBisectRoot", spec := "fnExactBisectRoot", inPlace := ["math/bits.Sub64", "math/bits.Add64"], unfollowed := true, recurses := true, named := ["math/bits.divideError", "math/bits.overflowError"], apart := false, narrowed := true }
def FnExactBisectRootUptoSaid : Prop := fnExactBisectRootUptoRow.holds Try.pinned (OpenSpec.upto fnExactBisectRootSpec)

/-- 'laws.FnExactSameVec', WHERE WHAT IT READS IS OF BULK AT MOST 1048576: true; the input reads as it did. -/
def fnExactSameVecUptoRow : OpenClaim := { program := "ytmikjgbojknlnaa", sum := "3860d4912a315d07bde1eaa466705d4d8a8b5b8c63d017744a74ce647e8eb9ef", func := "loop.example/g00880/laws.FnExactSameVec", spec := "fnExactSameVec", apart := false, narrowed := true }
def FnExactSameVecUptoSaid : Prop := fnExactSameVecUptoRow.holds Try.pinned (OpenSpec.upto fnExactSameVecSpec)

/-- 'laws.FnExactAddV', WHERE WHAT IT READS IS OF BULK AT MOST 1048576: true; the input reads as it did. -/
def fnExactAddVUptoRow : OpenClaim := { program := "ytmikjgbojknlnaa", sum := "3860d4912a315d07bde1eaa466705d4d8a8b5b8c63d017744a74ce647e8eb9ef", func := "loop.example/g00880/laws.FnExactAddV", spec := "fnExactAddV", unfollowed := true, recurses := true, apart := false, narrowed := true }
def FnExactAddVUptoSaid : Prop := fnExactAddVUptoRow.holds Try.pinned (OpenSpec.upto fnExactAddVSpec)

/-- 'laws.FnExactSubV', WHERE WHAT IT READS IS OF BULK AT MOST 1048576: true; the input reads as it did. -/
def fnExactSubVUptoRow : OpenClaim := { program := "ytmikjgbojknlnaa", sum := "3860d4912a315d07bde1eaa466705d4d8a8b5b8c63d017744a74ce647e8eb9ef", func := "loop.example/g00880/laws.FnExactSubV", spec := "fnExactSubV", unfollowed := true, recurses := true, apart := false, narrowed := true }
def FnExactSubVUptoSaid : Prop := fnExactSubVUptoRow.holds Try.pinned (OpenSpec.upto fnExactSubVSpec)

/-- 'laws.FnExactScaleV', WHERE WHAT IT READS IS OF BULK AT MOST 1048576: true; the input reads as it did. -/
def fnExactScaleVUptoRow : OpenClaim := { program := "ytmikjgbojknlnaa", sum := "3860d4912a315d07bde1eaa466705d4d8a8b5b8c63d017744a74ce647e8eb9ef", func := "loop.example/g00880/laws.FnExactScaleV", spec := "fnExactScaleV", inPlace := ["math/bits.Sub64", "math/bits.Add64"], unfollowed := true, recurses := true, named := ["math/bits.divideError", "math/bits.overflowError"], apart := false, narrowed := true }
def FnExactScaleVUptoSaid : Prop := fnExactScaleVUptoRow.holds Try.pinned (OpenSpec.upto fnExactScaleVSpec)

/-- 'laws.FnExactDotV', WHERE WHAT IT READS IS OF BULK AT MOST 1048576: true; the input reads as it did. -/
def fnExactDotVUptoRow : OpenClaim := { program := "ytmikjgbojknlnaa", sum := "3860d4912a315d07bde1eaa466705d4d8a8b5b8c63d017744a74ce647e8eb9ef", func := "loop.example/g00880/laws.FnExactDotV", spec := "fnExactDotV", inPlace := ["math/bits.Sub64", "math/bits.Add64"], unfollowed := true, recurses := true, named := ["math/bits.divideError", "math/bits.overflowError"], apart := false, narrowed := true }
def FnExactDotVUptoSaid : Prop := fnExactDotVUptoRow.holds Try.pinned (OpenSpec.upto fnExactDotVSpec)

/-- 'laws.FnExactCrossV', WHERE WHAT IT READS IS OF BULK AT MOST 1048576: true; the input reads as it did. -/
def fnExactCrossVUptoRow : OpenClaim := { program := "ytmikjgbojknlnaa", sum := "3860d4912a315d07bde1eaa466705d4d8a8b5b8c63d017744a74ce647e8eb9ef", func := "loop.example/g00880/laws.FnExactCrossV", spec := "fnExactCrossV", inPlace := ["math/bits.Sub64", "math/bits.Add64"], unfollowed := true, recurses := true, named := ["math/bits.divideError", "math/bits.overflowError"], apart := false, narrowed := true }
def FnExactCrossVUptoSaid : Prop := fnExactCrossVUptoRow.holds Try.pinned (OpenSpec.upto fnExactCrossVSpec)

/-- 'laws.FnExactNormV', WHERE WHAT IT READS IS OF BULK AT MOST 1048576: true; the input reads as it did. -/
def fnExactNormVUptoRow : OpenClaim := { program := "ytmikjgbojknlnaa", sum := "3860d4912a315d07bde1eaa466705d4d8a8b5b8c63d017744a74ce647e8eb9ef", func := "loop.example/g00880/laws.FnExactNormV", spec := "fnExactNormV", inPlace := ["math/bits.Sub64", "math/bits.Add64"], unfollowed := true, recurses := true, named := ["math/bits.divideError", "math/bits.overflowError"], apart := false, narrowed := true }
def FnExactNormVUptoSaid : Prop := fnExactNormVUptoRow.holds Try.pinned (OpenSpec.upto fnExactNormVSpec)

/-- 'laws.FnExactUnitV', WHERE WHAT IT READS IS OF BULK AT MOST 1048576: true; the input reads as it did. -/
def fnExactUnitVUptoRow : OpenClaim := { program := "ytmikjgbojknlnaa", sum := "3860d4912a315d07bde1eaa466705d4d8a8b5b8c63d017744a74ce647e8eb9ef", func := "loop.example/g00880/laws.FnExactUnitV", spec := "fnExactUnitV", inPlace := ["math/bits.Sub64", "math/bits.Add64"], unfollowed := true, recurses := true, named := ["math/bits.divideError", "math/bits.overflowError"], apart := false, narrowed := true }
def FnExactUnitVUptoSaid : Prop := fnExactUnitVUptoRow.holds Try.pinned (OpenSpec.upto fnExactUnitVSpec)

/-- 'laws.FnExactOverlapV', WHERE WHAT IT READS IS OF BULK AT MOST 1048576: true; the input reads as it did. -/
def fnExactOverlapVUptoRow : OpenClaim := { program := "ytmikjgbojknlnaa", sum := "3860d4912a315d07bde1eaa466705d4d8a8b5b8c63d017744a74ce647e8eb9ef", func := "loop.example/g00880/laws.FnExactOverlapV", spec := "fnExactOverlapV", apart := false, narrowed := true }
def FnExactOverlapVUptoSaid : Prop := fnExactOverlapVUptoRow.holds Try.pinned (OpenSpec.upto fnExactOverlapVSpec)

/-- 'laws.FnExactApplyM', WHERE WHAT IT READS IS OF BULK AT MOST 1048576: true; the input reads as it did. -/
def fnExactApplyMUptoRow : OpenClaim := { program := "ytmikjgbojknlnaa", sum := "3860d4912a315d07bde1eaa466705d4d8a8b5b8c63d017744a74ce647e8eb9ef", func := "loop.example/g00880/laws.FnExactApplyM", spec := "fnExactApplyM", inPlace := ["math/bits.Sub64", "math/bits.Add64"], unfollowed := true, recurses := true, named := ["math/bits.divideError", "math/bits.overflowError"], apart := false, narrowed := true }
def FnExactApplyMUptoSaid : Prop := fnExactApplyMUptoRow.holds Try.pinned (OpenSpec.upto fnExactApplyMSpec)

/-- 'laws.FnExactMulM', WHERE WHAT IT READS IS OF BULK AT MOST 1048576: true; the input reads as it did. -/
def fnExactMulMUptoRow : OpenClaim := { program := "ytmikjgbojknlnaa", sum := "3860d4912a315d07bde1eaa466705d4d8a8b5b8c63d017744a74ce647e8eb9ef", func := "loop.example/g00880/laws.FnExactMulM", spec := "fnExactMulM", inPlace := ["math/bits.Sub64", "math/bits.Add64"], unfollowed := true, recurses := true, named := ["math/bits.divideError", "math/bits.overflowError"], apart := false, narrowed := true }
def FnExactMulMUptoSaid : Prop := fnExactMulMUptoRow.holds Try.pinned (OpenSpec.upto fnExactMulMSpec)

/-- 'laws.FnExactInverseM', WHERE WHAT IT READS IS OF BULK AT MOST 1048576: true; the input reads as it did. -/
def fnExactInverseMUptoRow : OpenClaim := { program := "ytmikjgbojknlnaa", sum := "3860d4912a315d07bde1eaa466705d4d8a8b5b8c63d017744a74ce647e8eb9ef", func := "loop.example/g00880/laws.FnExactInverseM", spec := "fnExactInverseM", inPlace := ["math/bits.Sub64", "math/bits.Add64"], unfollowed := true, recurses := true, named := ["math/bits.divideError", "math/bits.overflowError"], apart := false, narrowed := true }
def FnExactInverseMUptoSaid : Prop := fnExactInverseMUptoRow.holds Try.pinned (OpenSpec.upto fnExactInverseMSpec)

/-- 'laws.FnExactRootsIn', WHERE WHAT IT READS IS OF BULK AT MOST 1048576: true; the input reads as it did. -/
def fnExactRootsInUptoRow : OpenClaim := { program := "ytmikjgbojknlnaa", sum := "3860d4912a315d07bde1eaa466705d4d8a8b5b8c63d017744a74ce647e8eb9ef", func := "loop.example/g00880/laws.FnExactRootsIn", spec := "fnExactRootsIn", inPlace := ["math/bits.Sub64", "math/bits.Add64"], unfollowed := true, recurses := true, named := ["math/bits.divideError", "math/bits.overflowError"], apart := false, narrowed := true }
def FnExactRootsInUptoSaid : Prop := fnExactRootsInUptoRow.holds Try.pinned (OpenSpec.upto fnExactRootsInSpec)

/-- 'laws.FnExactSqrtDown', WHERE WHAT IT READS IS OF BULK AT MOST 1048576: true; the input reads as it did. -/
def fnExactSqrtDownUptoRow : OpenClaim := { program := "ytmikjgbojknlnaa", sum := "3860d4912a315d07bde1eaa466705d4d8a8b5b8c63d017744a74ce647e8eb9ef", func := "loop.example/g00880/laws.FnExactSqrtDown", spec := "fnExactSqrtDown", inPlace := ["math/bits.Sub64"], unfollowed := true, recurses := true, apart := false, narrowed := true }
def FnExactSqrtDownUptoSaid : Prop := fnExactSqrtDownUptoRow.holds Try.pinned (OpenSpec.upto fnExactSqrtDownSpec)

/-- 'laws.FnExactSqrtUp', WHERE WHAT IT READS IS OF BULK AT MOST 1048576: true; the input reads as it did. -/
def fnExactSqrtUpUptoRow : OpenClaim := { program := "ytmikjgbojknlnaa", sum := "3860d4912a315d07bde1eaa466705d4d8a8b5b8c63d017744a74ce647e8eb9ef", func := "loop.example/g00880/laws.FnExactSqrtUp", spec := "fnExactSqrtUp", inPlace := ["math/bits.Sub64"], unfollowed := true, recurses := true, apart := false, narrowed := true }
def FnExactSqrtUpUptoSaid : Prop := fnExactSqrtUpUptoRow.holds Try.pinned (OpenSpec.upto fnExactSqrtUpSpec)

/-- 'laws.FnExactSqrtI', WHERE WHAT IT READS IS OF BULK AT MOST 1048576: true; the input reads as it did. -/
def fnExactSqrtIUptoRow : OpenClaim := { program := "ytmikjgbojknlnaa", sum := "3860d4912a315d07bde1eaa466705d4d8a8b5b8c63d017744a74ce647e8eb9ef", func := "loop.example/g00880/laws.FnExactSqrtI", spec := "fnExactSqrtI", inPlace := ["math/bits.Sub64"], unfollowed := true, recurses := true, apart := false, narrowed := true }
def FnExactSqrtIUptoSaid : Prop := fnExactSqrtIUptoRow.holds Try.pinned (OpenSpec.upto fnExactSqrtISpec)

end Rows
end Go.Proofs.Ytmikjgbojknlnaa
