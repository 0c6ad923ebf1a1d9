/-
  No cell of these rows narrows 'for every input' (looked for: loops, veiled, ifaces, maps, wideKeys, modest, calm, conditions, laid).
  DERIVED. THE GIVEN ROWS OF THIS SEAT. 11 by the template 'for every input the law returns true; each argument reads behind the call as it read before'; 0 by the template 'total and deterministic' (their statements: YtnfkddaigfjigabTotals.lean).
  GIVEN WITH THE SEED: the statements are not yours to turn. If you find one false, say at which input.
  Laid BY PROGRAM, IN A SANDBOX (cutbox-rows.mjs): the forced cells as the released guide's own fill.sh prints them over the translation 98324e53a9d4ee97… (all of the seat's roots in one cut). By AI agents, Wed Nov 11 2026. No macro, syntax, notation, axiom, sorry.
-/
import Derived.Test.YtnfkddaigfjigabChecked
import GoSem.Claim
import GoSem.ClaimJoined
import GoSem.ClaimMapViews
import Derived.JoinedTies
import Derived.KernelRfl
namespace Go.Proofs.Ytnfkddaigfjigab
/- THE CELL 'sum', in the pinned program and in every row, IS THE sha256 OF THE DUMP (.gsa) THAT YtnfkddaigfjigabProg.lean LOADS. Nothing in Lean hashes anything: it is a label: what it is worth is what the hold of that sum in a sandbox is worth. -/
noncomputable def Try.pinned : Pinned := { name := "ytnfkddaigfjigab", sum := "98324e53a9d4ee97ebf59b8720b132c1ce2623848f3f1c2ef05ef0f707b4d105", checked := Try.checked }
namespace Rows
def none {H : Type} : Left H := { results := [], args := [] }

/-- 'laws.FnExactWideInt': WHATEVER THE INPUT: true; the input reads as it did. -/
def fnExactWideIntSpec : ChangeSpec := { name := "fnExactWideInt", fn := fun _ => fun
  | [d] => { results := [.lit (.bool true)], args := [d] }
  | _ => none }
def fnExactWideIntRow : OpenClaim := { program := "ytnfkddaigfjigab", sum := "98324e53a9d4ee97ebf59b8720b132c1ce2623848f3f1c2ef05ef0f707b4d105", func := "loop.example/g00880/laws.FnExactWideInt", spec := "fnExactWideInt", apart := false }
def FnExactWideIntSaid : Prop := fnExactWideIntRow.holds Try.pinned (OpenSpec.ofChange fnExactWideIntSpec)

/-- ITS FALSE NEIGHBOUR: 'it returns false'. Refute it at one input. -/
def fnExactWideIntWrong : ChangeSpec := { name := "fnExactWideInt", fn := fun _ => fun
  | [d] => { results := [.lit (.bool false)], args := [d] }
  | _ => none }
def FnExactWideIntWrongFalsely : Prop := fnExactWideIntRow.holds Try.pinned (OpenSpec.ofChange fnExactWideIntWrong)

/-- 'laws.FnExactWideMul': WHATEVER THE INPUT: true; the input reads as it did. -/
def fnExactWideMulSpec : ChangeSpec := { name := "fnExactWideMul", fn := fun _ => fun
  | [d1, d2] => { results := [.lit (.bool true)], args := [d1, d2] }
  | _ => none }
def fnExactWideMulRow : OpenClaim := { program := "ytnfkddaigfjigab", sum := "98324e53a9d4ee97ebf59b8720b132c1ce2623848f3f1c2ef05ef0f707b4d105", func := "loop.example/g00880/laws.FnExactWideMul", spec := "fnExactWideMul", apart := false }
def FnExactWideMulSaid : Prop := fnExactWideMulRow.holds Try.pinned (OpenSpec.ofChange fnExactWideMulSpec)

/-- ITS FALSE NEIGHBOUR: 'it returns false'. Refute it at one input. -/
def fnExactWideMulWrong : ChangeSpec := { name := "fnExactWideMul", fn := fun _ => fun
  | [d1, d2] => { results := [.lit (.bool false)], args := [d1, d2] }
  | _ => none }
def FnExactWideMulWrongFalsely : Prop := fnExactWideMulRow.holds Try.pinned (OpenSpec.ofChange fnExactWideMulWrong)

/-- 'laws.FnExactWideAdd': WHATEVER THE INPUT: true; the input reads as it did. -/
def fnExactWideAddSpec : ChangeSpec := { name := "fnExactWideAdd", fn := fun _ => fun
  | [d1, d2] => { results := [.lit (.bool true)], args := [d1, d2] }
  | _ => none }
def fnExactWideAddRow : OpenClaim := { program := "ytnfkddaigfjigab", sum := "98324e53a9d4ee97ebf59b8720b132c1ce2623848f3f1c2ef05ef0f707b4d105", func := "loop.example/g00880/laws.FnExactWideAdd", spec := "fnExactWideAdd", inPlace := ["math/bits.Add64"], apart := false }
def FnExactWideAddSaid : Prop := fnExactWideAddRow.holds Try.pinned (OpenSpec.ofChange fnExactWideAddSpec)

/-- ITS FALSE NEIGHBOUR: 'it returns false'. Refute it at one input. -/
def fnExactWideAddWrong : ChangeSpec := { name := "fnExactWideAdd", fn := fun _ => fun
  | [d1, d2] => { results := [.lit (.bool false)], args := [d1, d2] }
  | _ => none }
def FnExactWideAddWrongFalsely : Prop := fnExactWideAddRow.holds Try.pinned (OpenSpec.ofChange fnExactWideAddWrong)

/-- 'laws.FnExactWideNeg': WHATEVER THE INPUT: true; the input reads as it did. -/
def fnExactWideNegSpec : ChangeSpec := { name := "fnExactWideNeg", fn := fun _ => fun
  | [d] => { results := [.lit (.bool true)], args := [d] }
  | _ => none }
def fnExactWideNegRow : OpenClaim := { program := "ytnfkddaigfjigab", sum := "98324e53a9d4ee97ebf59b8720b132c1ce2623848f3f1c2ef05ef0f707b4d105", func := "loop.example/g00880/laws.FnExactWideNeg", spec := "fnExactWideNeg", inPlace := ["math/bits.Sub64"], apart := false }
def FnExactWideNegSaid : Prop := fnExactWideNegRow.holds Try.pinned (OpenSpec.ofChange fnExactWideNegSpec)

/-- ITS FALSE NEIGHBOUR: 'it returns false'. Refute it at one input. -/
def fnExactWideNegWrong : ChangeSpec := { name := "fnExactWideNeg", fn := fun _ => fun
  | [d] => { results := [.lit (.bool false)], args := [d] }
  | _ => none }
def FnExactWideNegWrongFalsely : Prop := fnExactWideNegRow.holds Try.pinned (OpenSpec.ofChange fnExactWideNegWrong)

/-- 'laws.FnExactWideCompare': WHATEVER THE INPUT: true; the input reads as it did. -/
def fnExactWideCompareSpec : ChangeSpec := { name := "fnExactWideCompare", fn := fun _ => fun
  | [d1, d2] => { results := [.lit (.bool true)], args := [d1, d2] }
  | _ => none }
def fnExactWideCompareRow : OpenClaim := { program := "ytnfkddaigfjigab", sum := "98324e53a9d4ee97ebf59b8720b132c1ce2623848f3f1c2ef05ef0f707b4d105", func := "loop.example/g00880/laws.FnExactWideCompare", spec := "fnExactWideCompare", apart := false }
def FnExactWideCompareSaid : Prop := fnExactWideCompareRow.holds Try.pinned (OpenSpec.ofChange fnExactWideCompareSpec)

/-- ITS FALSE NEIGHBOUR: 'it returns false'. Refute it at one input. -/
def fnExactWideCompareWrong : ChangeSpec := { name := "fnExactWideCompare", fn := fun _ => fun
  | [d1, d2] => { results := [.lit (.bool false)], args := [d1, d2] }
  | _ => none }
def FnExactWideCompareWrongFalsely : Prop := fnExactWideCompareRow.holds Try.pinned (OpenSpec.ofChange fnExactWideCompareWrong)

/-- 'laws.FnExactWideShift': WHATEVER THE INPUT: true; the input reads as it did. -/
def fnExactWideShiftSpec : ChangeSpec := { name := "fnExactWideShift", fn := fun _ => fun
  | [d1, d2] => { results := [.lit (.bool true)], args := [d1, d2] }
  | _ => none }
def fnExactWideShiftRow : OpenClaim := { program := "ytnfkddaigfjigab", sum := "98324e53a9d4ee97ebf59b8720b132c1ce2623848f3f1c2ef05ef0f707b4d105", func := "loop.example/g00880/laws.FnExactWideShift", spec := "fnExactWideShift", apart := false }
def FnExactWideShiftSaid : Prop := fnExactWideShiftRow.holds Try.pinned (OpenSpec.ofChange fnExactWideShiftSpec)

/-- ITS FALSE NEIGHBOUR: 'it returns false'. Refute it at one input. -/
def fnExactWideShiftWrong : ChangeSpec := { name := "fnExactWideShift", fn := fun _ => fun
  | [d1, d2] => { results := [.lit (.bool false)], args := [d1, d2] }
  | _ => none }
def FnExactWideShiftWrongFalsely : Prop := fnExactWideShiftRow.holds Try.pinned (OpenSpec.ofChange fnExactWideShiftWrong)

/-- 'laws.FnExactWideDiv': WHATEVER THE INPUT: true; the input reads as it did. -/
def fnExactWideDivSpec : ChangeSpec := { name := "fnExactWideDiv", fn := fun _ => fun
  | [d1, d2] => { results := [.lit (.bool true)], args := [d1, d2] }
  | _ => none }
def fnExactWideDivRow : OpenClaim := { program := "ytnfkddaigfjigab", sum := "98324e53a9d4ee97ebf59b8720b132c1ce2623848f3f1c2ef05ef0f707b4d105", func := "loop.example/g00880/laws.FnExactWideDiv", spec := "fnExactWideDiv", inPlace := ["math/bits.Sub64"], recurses := true, named := ["math/bits.divideError", "math/bits.overflowError"], apart := false }
def FnExactWideDivSaid : Prop := fnExactWideDivRow.holds Try.pinned (OpenSpec.ofChange fnExactWideDivSpec)

/-- ITS FALSE NEIGHBOUR: 'it returns false'. Refute it at one input. -/
def fnExactWideDivWrong : ChangeSpec := { name := "fnExactWideDiv", fn := fun _ => fun
  | [d1, d2] => { results := [.lit (.bool false)], args := [d1, d2] }
  | _ => none }
def FnExactWideDivWrongFalsely : Prop := fnExactWideDivRow.holds Try.pinned (OpenSpec.ofChange fnExactWideDivWrong)

/-- 'laws.FnExactWideSqrt': WHATEVER THE INPUT: true; the input reads as it did. -/
def fnExactWideSqrtSpec : ChangeSpec := { name := "fnExactWideSqrt", fn := fun _ => fun
  | [d] => { results := [.lit (.bool true)], args := [d] }
  | _ => none }
def fnExactWideSqrtRow : OpenClaim := { program := "ytnfkddaigfjigab", sum := "98324e53a9d4ee97ebf59b8720b132c1ce2623848f3f1c2ef05ef0f707b4d105", func := "loop.example/g00880/laws.FnExactWideSqrt", spec := "fnExactWideSqrt", inPlace := ["math/bits.Sub64"], unfollowed := true, recurses := true, apart := false }
def FnExactWideSqrtSaid : Prop := fnExactWideSqrtRow.holds Try.pinned (OpenSpec.ofChange fnExactWideSqrtSpec)

/-- ITS FALSE NEIGHBOUR: 'it returns false'. Refute it at one input. -/
def fnExactWideSqrtWrong : ChangeSpec := { name := "fnExactWideSqrt", fn := fun _ => fun
  | [d] => { results := [.lit (.bool false)], args := [d] }
  | _ => none }
def FnExactWideSqrtWrongFalsely : Prop := fnExactWideSqrtRow.holds Try.pinned (OpenSpec.ofChange fnExactWideSqrtWrong)

/-- 'laws.FnExactMulFloor': WHATEVER THE INPUT: true; the input reads as it did. -/
def fnExactMulFloorSpec : ChangeSpec := { name := "fnExactMulFloor", fn := fun _ => fun
  | [d1, d2, d3] => { results := [.lit (.bool true)], args := [d1, d2, d3] }
  | _ => none }
def fnExactMulFloorRow : OpenClaim := { program := "ytnfkddaigfjigab", sum := "98324e53a9d4ee97ebf59b8720b132c1ce2623848f3f1c2ef05ef0f707b4d105", func := "loop.example/g00880/laws.FnExactMulFloor", spec := "fnExactMulFloor", apart := false }
def FnExactMulFloorSaid : Prop := fnExactMulFloorRow.holds Try.pinned (OpenSpec.ofChange fnExactMulFloorSpec)

/-- ITS FALSE NEIGHBOUR: 'it returns false'. Refute it at one input. -/
def fnExactMulFloorWrong : ChangeSpec := { name := "fnExactMulFloor", fn := fun _ => fun
  | [d1, d2, d3] => { results := [.lit (.bool false)], args := [d1, d2, d3] }
  | _ => none }
def FnExactMulFloorWrongFalsely : Prop := fnExactMulFloorRow.holds Try.pinned (OpenSpec.ofChange fnExactMulFloorWrong)

/-- 'laws.FnExactMulDivFloor': WHATEVER THE INPUT: true; the input reads as it did. -/
def fnExactMulDivFloorSpec : ChangeSpec := { name := "fnExactMulDivFloor", fn := fun _ => fun
  | [d1, d2, d3] => { results := [.lit (.bool true)], args := [d1, d2, d3] }
  | _ => none }
def fnExactMulDivFloorRow : OpenClaim := { program := "ytnfkddaigfjigab", sum := "98324e53a9d4ee97ebf59b8720b132c1ce2623848f3f1c2ef05ef0f707b4d105", func := "loop.example/g00880/laws.FnExactMulDivFloor", spec := "fnExactMulDivFloor", inPlace := ["math/bits.Sub64"], recurses := true, named := ["math/bits.divideError", "math/bits.overflowError"], apart := false }
def FnExactMulDivFloorSaid : Prop := fnExactMulDivFloorRow.holds Try.pinned (OpenSpec.ofChange fnExactMulDivFloorSpec)

/-- ITS FALSE NEIGHBOUR: 'it returns false'. Refute it at one input. -/
def fnExactMulDivFloorWrong : ChangeSpec := { name := "fnExactMulDivFloor", fn := fun _ => fun
  | [d1, d2, d3] => { results := [.lit (.bool false)], args := [d1, d2, d3] }
  | _ => none }
def FnExactMulDivFloorWrongFalsely : Prop := fnExactMulDivFloorRow.holds Try.pinned (OpenSpec.ofChange fnExactMulDivFloorWrong)

/-- 'laws.FnExactSqrtFloor': WHATEVER THE INPUT: true; the input reads as it did. -/
def fnExactSqrtFloorSpec : ChangeSpec := { name := "fnExactSqrtFloor", fn := fun _ => fun
  | [d1, d2] => { results := [.lit (.bool true)], args := [d1, d2] }
  | _ => none }
def fnExactSqrtFloorRow : OpenClaim := { program := "ytnfkddaigfjigab", sum := "98324e53a9d4ee97ebf59b8720b132c1ce2623848f3f1c2ef05ef0f707b4d105", func := "loop.example/g00880/laws.FnExactSqrtFloor", spec := "fnExactSqrtFloor", inPlace := ["math/bits.Sub64"], unfollowed := true, recurses := true, apart := false }
def FnExactSqrtFloorSaid : Prop := fnExactSqrtFloorRow.holds Try.pinned (OpenSpec.ofChange fnExactSqrtFloorSpec)

/-- ITS FALSE NEIGHBOUR: 'it returns false'. Refute it at one input. -/
def fnExactSqrtFloorWrong : ChangeSpec := { name := "fnExactSqrtFloor", fn := fun _ => fun
  | [d1, d2] => { results := [.lit (.bool false)], args := [d1, d2] }
  | _ => none }
def FnExactSqrtFloorWrongFalsely : Prop := fnExactSqrtFloorRow.holds Try.pinned (OpenSpec.ofChange fnExactSqrtFloorWrong)

/- THE SECOND FORM. 'bulk': how many values and letters a reading holds, each counted each time it is reached (what is shared counts as often as it is met; a slice's spare places count too). A statement '..UptoSaid' is the law's where the arguments, and the package variables that the reading takes, are together of bulk at most 1048576: NARROWER than '..Said'. Prove '..Said' where nothing that the law and all that it calls make is longer than what came in: it says more and counts as full. Else prove '..UptoSaid'. A law counts once. -/
mutual
def uptoBulk {H : Type} : DataW H → Nat
  | .lit (.string bytes) => bytes.length + 1
  | .lit _ => 1
  | .nil => 1
  | .ptr d => uptoBulk d + 1
  | .slice elems spare => uptoBulkAll elems + uptoBulkAll spare + 1
  | .agg parts => uptoBulkAll parts + 1
  | .iface _ d => uptoBulk d + 1
  | .map entries => uptoBulkEntries entries + 1
  | .held _ => 1
def uptoBulkAll {H : Type} : List (DataW H) → Nat
  | [] => 0
  | d :: r => uptoBulk d + uptoBulkAll r
def uptoBulkEntries {H : Type} : List (Lit × DataW H) → Nat
  | [] => 0
  | x :: r => uptoBulkEntry x + uptoBulkEntries r
def uptoBulkEntry {H : Type} : Lit × DataW H → Nat
  | (.string bytes, d) => bytes.length + uptoBulk d + 1
  | (_, d) => uptoBulk d + 1
 end
def uptoSmall : (H : Type) → List (DataW H) → Bool := fun _ ds => decide (uptoBulkAll ds ≤ 1048576)
def OpenSpec.upto (s : _root_.Go.ChangeSpec) : _root_.Go.OpenSpec := { _root_.Go.OpenSpec.ofChange s with cond := some uptoSmall }

/-- 'laws.FnExactWideInt', WHERE WHAT IT READS IS OF BULK AT MOST 1048576: true; the input reads as it did. -/
def fnExactWideIntUptoRow : OpenClaim := { program := "ytnfkddaigfjigab", sum := "98324e53a9d4ee97ebf59b8720b132c1ce2623848f3f1c2ef05ef0f707b4d105", func := "loop.example/g00880/laws.FnExactWideInt", spec := "fnExactWideInt", apart := false, narrowed := true }
def FnExactWideIntUptoSaid : Prop := fnExactWideIntUptoRow.holds Try.pinned (OpenSpec.upto fnExactWideIntSpec)

/-- 'laws.FnExactWideMul', WHERE WHAT IT READS IS OF BULK AT MOST 1048576: true; the input reads as it did. -/
def fnExactWideMulUptoRow : OpenClaim := { program := "ytnfkddaigfjigab", sum := "98324e53a9d4ee97ebf59b8720b132c1ce2623848f3f1c2ef05ef0f707b4d105", func := "loop.example/g00880/laws.FnExactWideMul", spec := "fnExactWideMul", apart := false, narrowed := true }
def FnExactWideMulUptoSaid : Prop := fnExactWideMulUptoRow.holds Try.pinned (OpenSpec.upto fnExactWideMulSpec)

/-- 'laws.FnExactWideAdd', WHERE WHAT IT READS IS OF BULK AT MOST 1048576: true; the input reads as it did. -/
def fnExactWideAddUptoRow : OpenClaim := { program := "ytnfkddaigfjigab", sum := "98324e53a9d4ee97ebf59b8720b132c1ce2623848f3f1c2ef05ef0f707b4d105", func := "loop.example/g00880/laws.FnExactWideAdd", spec := "fnExactWideAdd", inPlace := ["math/bits.Add64"], apart := false, narrowed := true }
def FnExactWideAddUptoSaid : Prop := fnExactWideAddUptoRow.holds Try.pinned (OpenSpec.upto fnExactWideAddSpec)

/-- 'laws.FnExactWideNeg', WHERE WHAT IT READS IS OF BULK AT MOST 1048576: true; the input reads as it did. -/
def fnExactWideNegUptoRow : OpenClaim := { program := "ytnfkddaigfjigab", sum := "98324e53a9d4ee97ebf59b8720b132c1ce2623848f3f1c2ef05ef0f707b4d105", func := "loop.example/g00880/laws.FnExactWideNeg", spec := "fnExactWideNeg", inPlace := ["math/bits.Sub64"], apart := false, narrowed := true }
def FnExactWideNegUptoSaid : Prop := fnExactWideNegUptoRow.holds Try.pinned (OpenSpec.upto fnExactWideNegSpec)

/-- 'laws.FnExactWideCompare', WHERE WHAT IT READS IS OF BULK AT MOST 1048576: true; the input reads as it did. -/
def fnExactWideCompareUptoRow : OpenClaim := { program := "ytnfkddaigfjigab", sum := "98324e53a9d4ee97ebf59b8720b132c1ce2623848f3f1c2ef05ef0f707b4d105", func := "loop.example/g00880/laws.FnExactWideCompare", spec := "fnExactWideCompare", apart := false, narrowed := true }
def FnExactWideCompareUptoSaid : Prop := fnExactWideCompareUptoRow.holds Try.pinned (OpenSpec.upto fnExactWideCompareSpec)

/-- 'laws.FnExactWideShift', WHERE WHAT IT READS IS OF BULK AT MOST 1048576: true; the input reads as it did. -/
def fnExactWideShiftUptoRow : OpenClaim := { program := "ytnfkddaigfjigab", sum := "98324e53a9d4ee97ebf59b8720b132c1ce2623848f3f1c2ef05ef0f707b4d105", func := "loop.example/g00880/laws.FnExactWideShift", spec := "fnExactWideShift", apart := false, narrowed := true }
def FnExactWideShiftUptoSaid : Prop := fnExactWideShiftUptoRow.holds Try.pinned (OpenSpec.upto fnExactWideShiftSpec)

/-- 'laws.FnExactWideDiv', WHERE WHAT IT READS IS OF BULK AT MOST 1048576: true; the input reads as it did. -/
def fnExactWideDivUptoRow : OpenClaim := { program := "ytnfkddaigfjigab", sum := "98324e53a9d4ee97ebf59b8720b132c1ce2623848f3f1c2ef05ef0f707b4d105", func := "loop.example/g00880/laws.FnExactWideDiv", spec := "fnExactWideDiv", inPlace := ["math/bits.Sub64"], recurses := true, named := ["math/bits.divideError", "math/bits.overflowError"], apart := false, narrowed := true }
def FnExactWideDivUptoSaid : Prop := fnExactWideDivUptoRow.holds Try.pinned (OpenSpec.upto fnExactWideDivSpec)

/-- 'laws.FnExactWideSqrt', WHERE WHAT IT READS IS OF BULK AT MOST 1048576: true; the input reads as it did. -/
def fnExactWideSqrtUptoRow : OpenClaim := { program := "ytnfkddaigfjigab", sum := "98324e53a9d4ee97ebf59b8720b132c1ce2623848f3f1c2ef05ef0f707b4d105", func := "loop.example/g00880/laws.FnExactWideSqrt", spec := "fnExactWideSqrt", inPlace := ["math/bits.Sub64"], unfollowed := true, recurses := true, apart := false, narrowed := true }
def FnExactWideSqrtUptoSaid : Prop := fnExactWideSqrtUptoRow.holds Try.pinned (OpenSpec.upto fnExactWideSqrtSpec)

/-- 'laws.FnExactMulFloor', WHERE WHAT IT READS IS OF BULK AT MOST 1048576: true; the input reads as it did. -/
def fnExactMulFloorUptoRow : OpenClaim := { program := "ytnfkddaigfjigab", sum := "98324e53a9d4ee97ebf59b8720b132c1ce2623848f3f1c2ef05ef0f707b4d105", func := "loop.example/g00880/laws.FnExactMulFloor", spec := "fnExactMulFloor", apart := false, narrowed := true }
def FnExactMulFloorUptoSaid : Prop := fnExactMulFloorUptoRow.holds Try.pinned (OpenSpec.upto fnExactMulFloorSpec)

/-- 'laws.FnExactMulDivFloor', WHERE WHAT IT READS IS OF BULK AT MOST 1048576: true; the input reads as it did. -/
def fnExactMulDivFloorUptoRow : OpenClaim := { program := "ytnfkddaigfjigab", sum := "98324e53a9d4ee97ebf59b8720b132c1ce2623848f3f1c2ef05ef0f707b4d105", func := "loop.example/g00880/laws.FnExactMulDivFloor", spec := "fnExactMulDivFloor", inPlace := ["math/bits.Sub64"], recurses := true, named := ["math/bits.divideError", "math/bits.overflowError"], apart := false, narrowed := true }
def FnExactMulDivFloorUptoSaid : Prop := fnExactMulDivFloorUptoRow.holds Try.pinned (OpenSpec.upto fnExactMulDivFloorSpec)

/-- 'laws.FnExactSqrtFloor', WHERE WHAT IT READS IS OF BULK AT MOST 1048576: true; the input reads as it did. -/
def fnExactSqrtFloorUptoRow : OpenClaim := { program := "ytnfkddaigfjigab", sum := "98324e53a9d4ee97ebf59b8720b132c1ce2623848f3f1c2ef05ef0f707b4d105", func := "loop.example/g00880/laws.FnExactSqrtFloor", spec := "fnExactSqrtFloor", inPlace := ["math/bits.Sub64"], unfollowed := true, recurses := true, apart := false, narrowed := true }
def FnExactSqrtFloorUptoSaid : Prop := fnExactSqrtFloorUptoRow.holds Try.pinned (OpenSpec.upto fnExactSqrtFloorSpec)

end Rows
end Go.Proofs.Ytnfkddaigfjigab
