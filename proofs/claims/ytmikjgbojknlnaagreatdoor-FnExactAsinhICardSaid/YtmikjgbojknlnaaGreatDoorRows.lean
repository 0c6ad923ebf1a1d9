/-
  NARROWER THAN 'FOR EVERY INPUT', by the rows' own cells (each row's printed sentence says how): FnExactTurnX: laid · FnExactTurnY: laid · FnExactTurnZ: laid · FnExactAsinAt: laid · FnExactAsinI: laid · FnExactAcosI: laid · FnExactAtanAt: laid · FnExactAtanI: laid · FnExactDirectionAt: laid · FnExactAsinhI: laid · FnVectors: laid.
  DERIVED. THE GIVEN ROWS OF THIS SEAT. 11 by the template 'for every input the law returns true; each argument reads behind the call as it read before'; 0 by the template 'total and deterministic' (their statements: YtmikjgbojknlnaaGreatDoorTotals.lean).
  GIVEN WITH THE SEED: the statements are not yours to turn. If you find one false, say at which input.
  Laid BY PROGRAM, IN A SANDBOX (cutbox-rows.mjs): the forced cells as the released guide's own fill.sh prints them over the translation 475741a88fa1672d… (all of the seat's roots in one cut). By AI agents, Wed Nov 11 2026. No macro, syntax, notation, axiom, sorry.
-/
import Derived.Test.YtmikjgbojknlnaaGreatDoorChecked
import GoSem.Claim
import GoSem.ClaimJoined
import GoSem.ClaimMapViews
import Derived.JoinedTies
import Derived.KernelRfl
namespace Go.Proofs.YtmikjgbojknlnaaGreatDoor
/- THE CELL 'sum', in the pinned program and in every row, IS THE sha256 OF THE DUMP (.gsa) THAT YtmikjgbojknlnaaGreatDoorProg.lean LOADS. Nothing in Lean hashes anything: it is a label: what it is worth is what the hold of that sum in a sandbox is worth. -/
noncomputable def Tryz.pinned : Pinned := { name := "ytmikjgbojknlnaagreatdoor", sum := "475741a88fa1672d84f20e80e7291b0d33e83e4fc3b8da86827b8e9cae1adaf4", checked := Tryz.checked }
namespace Rows
def none {H : Type} : Left H := { results := [], args := [] }

/- WHAT THE LISTED PACKAGE-LEVEL VARIABLES READ AS WHEN THE CALL BEGINS. Each datum BY PROGRAM (the guide's laid-datum.mjs) off the statement by which the dump's own 'gosem.cut.vars' lays the variable. In a bare row this is a premise. The card (YtmikjgbojknlnaaGreatDoorCards.lean) ties it to the program's text. -/
def laid_loop_example_g00880_impl_unitRing {H : Type} : DataW H := .agg [.lit (.int .i64 (-4294967296)), .lit (.int .i64 4294967296)]
def laid_loop_example_g00880_impl_tiny {H : Type} : DataW H := .agg [.lit (.int .i64 (-1)), .lit (.int .i64 1)]

/-- 'laws.FnExactTurnX': WHATEVER THE INPUT: true; the input reads as it did. -/
def fnExactTurnXSpec : ChangeSpec := { name := "fnExactTurnX", vars := ["loop.example/g00880/impl.unitRing", "loop.example/g00880/impl.tiny"], fn := fun _ => fun
  | [d1, d2, g1, g2] => { results := [.lit (.bool true)], args := [d1, d2], vars := [g1, g2] }
  | _ => none }
def fnExactTurnXRow : OpenClaim := { program := "ytmikjgbojknlnaagreatdoor", sum := "475741a88fa1672d84f20e80e7291b0d33e83e4fc3b8da86827b8e9cae1adaf4", func := "loop.example/g00880/laws.FnExactTurnX", spec := "fnExactTurnX", inPlace := ["math/bits.Sub64", "math/bits.Add64"], unfollowed := true, recurses := true, named := ["loop.example/g00880/impl.unitRing", "math/bits.divideError", "math/bits.overflowError", "loop.example/g00880/impl.tiny"], apart := false, laid := [("loop.example/g00880/impl.unitRing", laid_loop_example_g00880_impl_unitRing), ("loop.example/g00880/impl.tiny", laid_loop_example_g00880_impl_tiny)] }
def FnExactTurnXSaid : Prop := fnExactTurnXRow.holds Tryz.pinned (OpenSpec.ofChange fnExactTurnXSpec)

/-- ITS FALSE NEIGHBOUR: 'it returns false'. Refute it at one input. -/
def fnExactTurnXWrong : ChangeSpec := { name := "fnExactTurnX", vars := ["loop.example/g00880/impl.unitRing", "loop.example/g00880/impl.tiny"], fn := fun _ => fun
  | [d1, d2, g1, g2] => { results := [.lit (.bool false)], args := [d1, d2], vars := [g1, g2] }
  | _ => none }
def FnExactTurnXWrongFalsely : Prop := fnExactTurnXRow.holds Tryz.pinned (OpenSpec.ofChange fnExactTurnXWrong)

/-- 'laws.FnExactTurnY': WHATEVER THE INPUT: true; the input reads as it did. -/
def fnExactTurnYSpec : ChangeSpec := { name := "fnExactTurnY", vars := ["loop.example/g00880/impl.unitRing", "loop.example/g00880/impl.tiny"], fn := fun _ => fun
  | [d1, d2, g1, g2] => { results := [.lit (.bool true)], args := [d1, d2], vars := [g1, g2] }
  | _ => none }
def fnExactTurnYRow : OpenClaim := { program := "ytmikjgbojknlnaagreatdoor", sum := "475741a88fa1672d84f20e80e7291b0d33e83e4fc3b8da86827b8e9cae1adaf4", func := "loop.example/g00880/laws.FnExactTurnY", spec := "fnExactTurnY", inPlace := ["math/bits.Sub64", "math/bits.Add64"], unfollowed := true, recurses := true, named := ["loop.example/g00880/impl.unitRing", "math/bits.divideError", "math/bits.overflowError", "loop.example/g00880/impl.tiny"], apart := false, laid := [("loop.example/g00880/impl.unitRing", laid_loop_example_g00880_impl_unitRing), ("loop.example/g00880/impl.tiny", laid_loop_example_g00880_impl_tiny)] }
def FnExactTurnYSaid : Prop := fnExactTurnYRow.holds Tryz.pinned (OpenSpec.ofChange fnExactTurnYSpec)

/-- ITS FALSE NEIGHBOUR: 'it returns false'. Refute it at one input. -/
def fnExactTurnYWrong : ChangeSpec := { name := "fnExactTurnY", vars := ["loop.example/g00880/impl.unitRing", "loop.example/g00880/impl.tiny"], fn := fun _ => fun
  | [d1, d2, g1, g2] => { results := [.lit (.bool false)], args := [d1, d2], vars := [g1, g2] }
  | _ => none }
def FnExactTurnYWrongFalsely : Prop := fnExactTurnYRow.holds Tryz.pinned (OpenSpec.ofChange fnExactTurnYWrong)

/-- 'laws.FnExactTurnZ': WHATEVER THE INPUT: true; the input reads as it did. -/
def fnExactTurnZSpec : ChangeSpec := { name := "fnExactTurnZ", vars := ["loop.example/g00880/impl.unitRing", "loop.example/g00880/impl.tiny"], fn := fun _ => fun
  | [d1, d2, g1, g2] => { results := [.lit (.bool true)], args := [d1, d2], vars := [g1, g2] }
  | _ => none }
def fnExactTurnZRow : OpenClaim := { program := "ytmikjgbojknlnaagreatdoor", sum := "475741a88fa1672d84f20e80e7291b0d33e83e4fc3b8da86827b8e9cae1adaf4", func := "loop.example/g00880/laws.FnExactTurnZ", spec := "fnExactTurnZ", inPlace := ["math/bits.Sub64", "math/bits.Add64"], unfollowed := true, recurses := true, named := ["loop.example/g00880/impl.unitRing", "math/bits.divideError", "math/bits.overflowError", "loop.example/g00880/impl.tiny"], apart := false, laid := [("loop.example/g00880/impl.unitRing", laid_loop_example_g00880_impl_unitRing), ("loop.example/g00880/impl.tiny", laid_loop_example_g00880_impl_tiny)] }
def FnExactTurnZSaid : Prop := fnExactTurnZRow.holds Tryz.pinned (OpenSpec.ofChange fnExactTurnZSpec)

/-- ITS FALSE NEIGHBOUR: 'it returns false'. Refute it at one input. -/
def fnExactTurnZWrong : ChangeSpec := { name := "fnExactTurnZ", vars := ["loop.example/g00880/impl.unitRing", "loop.example/g00880/impl.tiny"], fn := fun _ => fun
  | [d1, d2, g1, g2] => { results := [.lit (.bool false)], args := [d1, d2], vars := [g1, g2] }
  | _ => none }
def FnExactTurnZWrongFalsely : Prop := fnExactTurnZRow.holds Tryz.pinned (OpenSpec.ofChange fnExactTurnZWrong)

/-- 'laws.FnExactAsinAt': WHATEVER THE INPUT: true; the input reads as it did. -/
def fnExactAsinAtSpec : ChangeSpec := { name := "fnExactAsinAt", vars := ["loop.example/g00880/impl.unitRing", "loop.example/g00880/impl.tiny"], fn := fun _ => fun
  | [d, g1, g2] => { results := [.lit (.bool true)], args := [d], vars := [g1, g2] }
  | _ => none }
def fnExactAsinAtRow : OpenClaim := { program := "ytmikjgbojknlnaagreatdoor", sum := "475741a88fa1672d84f20e80e7291b0d33e83e4fc3b8da86827b8e9cae1adaf4", func := "loop.example/g00880/laws.FnExactAsinAt", spec := "fnExactAsinAt", inPlace := ["math/bits.Sub64", "math/bits.Add64"], unfollowed := true, recurses := true, named := ["loop.example/g00880/impl.unitRing", "math/bits.divideError", "math/bits.overflowError", "loop.example/g00880/impl.tiny"], apart := false, laid := [("loop.example/g00880/impl.unitRing", laid_loop_example_g00880_impl_unitRing), ("loop.example/g00880/impl.tiny", laid_loop_example_g00880_impl_tiny)] }
def FnExactAsinAtSaid : Prop := fnExactAsinAtRow.holds Tryz.pinned (OpenSpec.ofChange fnExactAsinAtSpec)

/-- ITS FALSE NEIGHBOUR: 'it returns false'. Refute it at one input. -/
def fnExactAsinAtWrong : ChangeSpec := { name := "fnExactAsinAt", vars := ["loop.example/g00880/impl.unitRing", "loop.example/g00880/impl.tiny"], fn := fun _ => fun
  | [d, g1, g2] => { results := [.lit (.bool false)], args := [d], vars := [g1, g2] }
  | _ => none }
def FnExactAsinAtWrongFalsely : Prop := fnExactAsinAtRow.holds Tryz.pinned (OpenSpec.ofChange fnExactAsinAtWrong)

/-- 'laws.FnExactAsinI': WHATEVER THE INPUT: true; the input reads as it did. -/
def fnExactAsinISpec : ChangeSpec := { name := "fnExactAsinI", vars := ["loop.example/g00880/impl.unitRing", "loop.example/g00880/impl.tiny"], fn := fun _ => fun
  | [d, g1, g2] => { results := [.lit (.bool true)], args := [d], vars := [g1, g2] }
  | _ => none }
def fnExactAsinIRow : OpenClaim := { program := "ytmikjgbojknlnaagreatdoor", sum := "475741a88fa1672d84f20e80e7291b0d33e83e4fc3b8da86827b8e9cae1adaf4", func := "loop.example/g00880/laws.FnExactAsinI", spec := "fnExactAsinI", inPlace := ["math/bits.Sub64", "math/bits.Add64"], unfollowed := true, recurses := true, named := ["loop.example/g00880/impl.unitRing", "math/bits.divideError", "math/bits.overflowError", "loop.example/g00880/impl.tiny"], apart := false, laid := [("loop.example/g00880/impl.unitRing", laid_loop_example_g00880_impl_unitRing), ("loop.example/g00880/impl.tiny", laid_loop_example_g00880_impl_tiny)] }
def FnExactAsinISaid : Prop := fnExactAsinIRow.holds Tryz.pinned (OpenSpec.ofChange fnExactAsinISpec)

/-- ITS FALSE NEIGHBOUR: 'it returns false'. Refute it at one input. -/
def fnExactAsinIWrong : ChangeSpec := { name := "fnExactAsinI", vars := ["loop.example/g00880/impl.unitRing", "loop.example/g00880/impl.tiny"], fn := fun _ => fun
  | [d, g1, g2] => { results := [.lit (.bool false)], args := [d], vars := [g1, g2] }
  | _ => none }
def FnExactAsinIWrongFalsely : Prop := fnExactAsinIRow.holds Tryz.pinned (OpenSpec.ofChange fnExactAsinIWrong)

/-- 'laws.FnExactAcosI': WHATEVER THE INPUT: true; the input reads as it did. -/
def fnExactAcosISpec : ChangeSpec := { name := "fnExactAcosI", vars := ["loop.example/g00880/impl.unitRing", "loop.example/g00880/impl.tiny"], fn := fun _ => fun
  | [d, g1, g2] => { results := [.lit (.bool true)], args := [d], vars := [g1, g2] }
  | _ => none }
def fnExactAcosIRow : OpenClaim := { program := "ytmikjgbojknlnaagreatdoor", sum := "475741a88fa1672d84f20e80e7291b0d33e83e4fc3b8da86827b8e9cae1adaf4", func := "loop.example/g00880/laws.FnExactAcosI", spec := "fnExactAcosI", inPlace := ["math/bits.Sub64", "math/bits.Add64"], unfollowed := true, recurses := true, named := ["math/bits.divideError", "math/bits.overflowError", "loop.example/g00880/impl.unitRing", "loop.example/g00880/impl.tiny"], apart := false, laid := [("loop.example/g00880/impl.unitRing", laid_loop_example_g00880_impl_unitRing), ("loop.example/g00880/impl.tiny", laid_loop_example_g00880_impl_tiny)] }
def FnExactAcosISaid : Prop := fnExactAcosIRow.holds Tryz.pinned (OpenSpec.ofChange fnExactAcosISpec)

/-- ITS FALSE NEIGHBOUR: 'it returns false'. Refute it at one input. -/
def fnExactAcosIWrong : ChangeSpec := { name := "fnExactAcosI", vars := ["loop.example/g00880/impl.unitRing", "loop.example/g00880/impl.tiny"], fn := fun _ => fun
  | [d, g1, g2] => { results := [.lit (.bool false)], args := [d], vars := [g1, g2] }
  | _ => none }
def FnExactAcosIWrongFalsely : Prop := fnExactAcosIRow.holds Tryz.pinned (OpenSpec.ofChange fnExactAcosIWrong)

/-- 'laws.FnExactAtanAt': WHATEVER THE INPUT: true; the input reads as it did. -/
def fnExactAtanAtSpec : ChangeSpec := { name := "fnExactAtanAt", vars := ["loop.example/g00880/impl.tiny"], fn := fun _ => fun
  | [d, g1] => { results := [.lit (.bool true)], args := [d], vars := [g1] }
  | _ => none }
def fnExactAtanAtRow : OpenClaim := { program := "ytmikjgbojknlnaagreatdoor", sum := "475741a88fa1672d84f20e80e7291b0d33e83e4fc3b8da86827b8e9cae1adaf4", func := "loop.example/g00880/laws.FnExactAtanAt", spec := "fnExactAtanAt", inPlace := ["math/bits.Sub64", "math/bits.Add64"], unfollowed := true, recurses := true, named := ["math/bits.divideError", "math/bits.overflowError", "loop.example/g00880/impl.tiny"], apart := false, laid := [("loop.example/g00880/impl.tiny", laid_loop_example_g00880_impl_tiny)] }
def FnExactAtanAtSaid : Prop := fnExactAtanAtRow.holds Tryz.pinned (OpenSpec.ofChange fnExactAtanAtSpec)

/-- ITS FALSE NEIGHBOUR: 'it returns false'. Refute it at one input. -/
def fnExactAtanAtWrong : ChangeSpec := { name := "fnExactAtanAt", vars := ["loop.example/g00880/impl.tiny"], fn := fun _ => fun
  | [d, g1] => { results := [.lit (.bool false)], args := [d], vars := [g1] }
  | _ => none }
def FnExactAtanAtWrongFalsely : Prop := fnExactAtanAtRow.holds Tryz.pinned (OpenSpec.ofChange fnExactAtanAtWrong)

/-- 'laws.FnExactAtanI': WHATEVER THE INPUT: true; the input reads as it did. -/
def fnExactAtanISpec : ChangeSpec := { name := "fnExactAtanI", vars := ["loop.example/g00880/impl.tiny"], fn := fun _ => fun
  | [d, g1] => { results := [.lit (.bool true)], args := [d], vars := [g1] }
  | _ => none }
def fnExactAtanIRow : OpenClaim := { program := "ytmikjgbojknlnaagreatdoor", sum := "475741a88fa1672d84f20e80e7291b0d33e83e4fc3b8da86827b8e9cae1adaf4", func := "loop.example/g00880/laws.FnExactAtanI", spec := "fnExactAtanI", inPlace := ["math/bits.Sub64", "math/bits.Add64"], unfollowed := true, recurses := true, named := ["math/bits.divideError", "math/bits.overflowError", "loop.example/g00880/impl.tiny"], apart := false, laid := [("loop.example/g00880/impl.tiny", laid_loop_example_g00880_impl_tiny)] }
def FnExactAtanISaid : Prop := fnExactAtanIRow.holds Tryz.pinned (OpenSpec.ofChange fnExactAtanISpec)

/-- ITS FALSE NEIGHBOUR: 'it returns false'. Refute it at one input. -/
def fnExactAtanIWrong : ChangeSpec := { name := "fnExactAtanI", vars := ["loop.example/g00880/impl.tiny"], fn := fun _ => fun
  | [d, g1] => { results := [.lit (.bool false)], args := [d], vars := [g1] }
  | _ => none }
def FnExactAtanIWrongFalsely : Prop := fnExactAtanIRow.holds Tryz.pinned (OpenSpec.ofChange fnExactAtanIWrong)

/-- 'laws.FnExactDirectionAt': WHATEVER THE INPUT: true; the input reads as it did. -/
def fnExactDirectionAtSpec : ChangeSpec := { name := "fnExactDirectionAt", vars := ["loop.example/g00880/impl.tiny"], fn := fun _ => fun
  | [d1, d2, g1] => { results := [.lit (.bool true)], args := [d1, d2], vars := [g1] }
  | _ => none }
def fnExactDirectionAtRow : OpenClaim := { program := "ytmikjgbojknlnaagreatdoor", sum := "475741a88fa1672d84f20e80e7291b0d33e83e4fc3b8da86827b8e9cae1adaf4", func := "loop.example/g00880/laws.FnExactDirectionAt", spec := "fnExactDirectionAt", inPlace := ["math/bits.Sub64", "math/bits.Add64"], unfollowed := true, recurses := true, named := ["math/bits.divideError", "math/bits.overflowError", "loop.example/g00880/impl.tiny"], apart := false, laid := [("loop.example/g00880/impl.tiny", laid_loop_example_g00880_impl_tiny)] }
def FnExactDirectionAtSaid : Prop := fnExactDirectionAtRow.holds Tryz.pinned (OpenSpec.ofChange fnExactDirectionAtSpec)

/-- ITS FALSE NEIGHBOUR: 'it returns false'. Refute it at one input. -/
def fnExactDirectionAtWrong : ChangeSpec := { name := "fnExactDirectionAt", vars := ["loop.example/g00880/impl.tiny"], fn := fun _ => fun
  | [d1, d2, g1] => { results := [.lit (.bool false)], args := [d1, d2], vars := [g1] }
  | _ => none }
def FnExactDirectionAtWrongFalsely : Prop := fnExactDirectionAtRow.holds Tryz.pinned (OpenSpec.ofChange fnExactDirectionAtWrong)

/-- 'laws.FnExactAsinhI': WHATEVER THE INPUT: true; the input reads as it did. -/
def fnExactAsinhISpec : ChangeSpec := { name := "fnExactAsinhI", vars := ["loop.example/g00880/impl.tiny"], fn := fun _ => fun
  | [d, g1] => { results := [.lit (.bool true)], args := [d], vars := [g1] }
  | _ => none }
def fnExactAsinhIRow : OpenClaim := { program := "ytmikjgbojknlnaagreatdoor", sum := "475741a88fa1672d84f20e80e7291b0d33e83e4fc3b8da86827b8e9cae1adaf4", func := "loop.example/g00880/laws.FnExactAsinhI", spec := "fnExactAsinhI", inPlace := ["math/bits.Sub64", "math/bits.Add64"], unfollowed := true, recurses := true, named := ["math/bits.divideError", "math/bits.overflowError", "loop.example/g00880/impl.tiny"], apart := false, laid := [("loop.example/g00880/impl.tiny", laid_loop_example_g00880_impl_tiny)] }
def FnExactAsinhISaid : Prop := fnExactAsinhIRow.holds Tryz.pinned (OpenSpec.ofChange fnExactAsinhISpec)

/-- ITS FALSE NEIGHBOUR: 'it returns false'. Refute it at one input. -/
def fnExactAsinhIWrong : ChangeSpec := { name := "fnExactAsinhI", vars := ["loop.example/g00880/impl.tiny"], fn := fun _ => fun
  | [d, g1] => { results := [.lit (.bool false)], args := [d], vars := [g1] }
  | _ => none }
def FnExactAsinhIWrongFalsely : Prop := fnExactAsinhIRow.holds Tryz.pinned (OpenSpec.ofChange fnExactAsinhIWrong)

/-- 'laws.FnVectors': WHATEVER THE INPUT: true; the input reads as it did. -/
def fnVectorsSpec : ChangeSpec := { name := "fnVectors", vars := ["loop.example/g00880/impl.unitRing", "loop.example/g00880/impl.tiny"], fn := fun _ => fun
  | [d1, d2, g1, g2] => { results := [.lit (.bool true)], args := [d1, d2], vars := [g1, g2] }
  | _ => none }
def fnVectorsRow : OpenClaim := { program := "ytmikjgbojknlnaagreatdoor", sum := "475741a88fa1672d84f20e80e7291b0d33e83e4fc3b8da86827b8e9cae1adaf4", func := "loop.example/g00880/laws.FnVectors", spec := "fnVectors", inPlace := ["math/bits.Sub64", "math/bits.Add64"], unfollowed := true, recurses := true, named := ["math/bits.divideError", "math/bits.overflowError", "loop.example/g00880/impl.unitRing", "loop.example/g00880/impl.tiny"], apart := false, laid := [("loop.example/g00880/impl.unitRing", laid_loop_example_g00880_impl_unitRing), ("loop.example/g00880/impl.tiny", laid_loop_example_g00880_impl_tiny)] }
def FnVectorsSaid : Prop := fnVectorsRow.holds Tryz.pinned (OpenSpec.ofChange fnVectorsSpec)

/-- ITS FALSE NEIGHBOUR: 'it returns false'. Refute it at one input. -/
def fnVectorsWrong : ChangeSpec := { name := "fnVectors", vars := ["loop.example/g00880/impl.unitRing", "loop.example/g00880/impl.tiny"], fn := fun _ => fun
  | [d1, d2, g1, g2] => { results := [.lit (.bool false)], args := [d1, d2], vars := [g1, g2] }
  | _ => none }
def FnVectorsWrongFalsely : Prop := fnVectorsRow.holds Tryz.pinned (OpenSpec.ofChange fnVectorsWrong)

/- THE SECOND FORM. 'bulk': how many values and letters a reading holds, each counted each time it is reached (what is shared counts as often as it is met; a slice's spare places count too). A statement '..UptoSaid' is the law's where the arguments, and the package variables that the reading takes, are together of bulk at most 1048576: NARROWER than '..Said'. Prove '..Said' where nothing that the law and all that it calls make is longer than what came in: it says more and counts as full. Else prove '..UptoSaid'. A law counts once. -/
mutual
def uptoBulk {H : Type} : DataW H → Nat
  | .lit (.string bytes) => bytes.length + 1
  | .lit _ => 1
  | .nil => 1
  | .ptr d => uptoBulk d + 1
  | .slice elems spare => uptoBulkAll elems + uptoBulkAll spare + 1
  | .agg parts => uptoBulkAll parts + 1
  | .iface _ d => uptoBulk d + 1
  | .map entries => uptoBulkEntries entries + 1
  | .held _ => 1
def uptoBulkAll {H : Type} : List (DataW H) → Nat
  | [] => 0
  | d :: r => uptoBulk d + uptoBulkAll r
def uptoBulkEntries {H : Type} : List (Lit × DataW H) → Nat
  | [] => 0
  | x :: r => uptoBulkEntry x + uptoBulkEntries r
def uptoBulkEntry {H : Type} : Lit × DataW H → Nat
  | (.string bytes, d) => bytes.length + uptoBulk d + 1
  | (_, d) => uptoBulk d + 1
 end
def uptoSmall : (H : Type) → List (DataW H) → Bool := fun _ ds => decide (uptoBulkAll ds ≤ 1048576)
def OpenSpec.upto (s : _root_.Go.ChangeSpec) : _root_.Go.OpenSpec := { _root_.Go.OpenSpec.ofChange s with cond := some uptoSmall }

/-- 'laws.FnExactTurnX', WHERE WHAT IT READS IS OF BULK AT MOST 1048576: true; the input reads as it did. -/
def fnExactTurnXUptoRow : OpenClaim := { program := "ytmikjgbojknlnaagreatdoor", sum := "475741a88fa1672d84f20e80e7291b0d33e83e4fc3b8da86827b8e9cae1adaf4", func := "loop.example/g00880/laws.FnExactTurnX", spec := "fnExactTurnX", inPlace := ["math/bits.Sub64", "math/bits.Add64"], unfollowed := true, recurses := true, named := ["loop.example/g00880/impl.unitRing", "math/bits.divideError", "math/bits.overflowError", "loop.example/g00880/impl.tiny"], apart := false, laid := [("loop.example/g00880/impl.unitRing", laid_loop_example_g00880_impl_unitRing), ("loop.example/g00880/impl.tiny", laid_loop_example_g00880_impl_tiny)], narrowed := true }
def FnExactTurnXUptoSaid : Prop := fnExactTurnXUptoRow.holds Tryz.pinned (OpenSpec.upto fnExactTurnXSpec)

/-- 'laws.FnExactTurnY', WHERE WHAT IT READS IS OF BULK AT MOST 1048576: true; the input reads as it did. -/
def fnExactTurnYUptoRow : OpenClaim := { program := "ytmikjgbojknlnaagreatdoor", sum := "475741a88fa1672d84f20e80e7291b0d33e83e4fc3b8da86827b8e9cae1adaf4", func := "loop.example/g00880/laws.FnExactTurnY", spec := "fnExactTurnY", inPlace := ["math/bits.Sub64", "math/bits.Add64"], unfollowed := true, recurses := true, named := ["loop.example/g00880/impl.unitRing", "math/bits.divideError", "math/bits.overflowError", "loop.example/g00880/impl.tiny"], apart := false, laid := [("loop.example/g00880/impl.unitRing", laid_loop_example_g00880_impl_unitRing), ("loop.example/g00880/impl.tiny", laid_loop_example_g00880_impl_tiny)], narrowed := true }
def FnExactTurnYUptoSaid : Prop := fnExactTurnYUptoRow.holds Tryz.pinned (OpenSpec.upto fnExactTurnYSpec)

/-- 'laws.FnExactTurnZ', WHERE WHAT IT READS IS OF BULK AT MOST 1048576: true; the input reads as it did. -/
def fnExactTurnZUptoRow : OpenClaim := { program := "ytmikjgbojknlnaagreatdoor", sum := "475741a88fa1672d84f20e80e7291b0d33e83e4fc3b8da86827b8e9cae1adaf4", func := "loop.example/g00880/laws.FnExactTurnZ", spec := "fnExactTurnZ", inPlace := ["math/bits.Sub64", "math/bits.Add64"], unfollowed := true, recurses := true, named := ["loop.example/g00880/impl.unitRing", "math/bits.divideError", "math/bits.overflowError", "loop.example/g00880/impl.tiny"], apart := false, laid := [("loop.example/g00880/impl.unitRing", laid_loop_example_g00880_impl_unitRing), ("loop.example/g00880/impl.tiny", laid_loop_example_g00880_impl_tiny)], narrowed := true }
def FnExactTurnZUptoSaid : Prop := fnExactTurnZUptoRow.holds Tryz.pinned (OpenSpec.upto fnExactTurnZSpec)

/-- 'laws.FnExactAsinAt', WHERE WHAT IT READS IS OF BULK AT MOST 1048576: true; the input reads as it did. -/
def fnExactAsinAtUptoRow : OpenClaim := { program := "ytmikjgbojknlnaagreatdoor", sum := "475741a88fa1672d84f20e80e7291b0d33e83e4fc3b8da86827b8e9cae1adaf4", func := "loop.example/g00880/laws.FnExactAsinAt", spec := "fnExactAsinAt", inPlace := ["math/bits.Sub64", "math/bits.Add64"], unfollowed := true, recurses := true, named := ["loop.example/g00880/impl.unitRing", "math/bits.divideError", "math/bits.overflowError", "loop.example/g00880/impl.tiny"], apart := false, laid := [("loop.example/g00880/impl.unitRing", laid_loop_example_g00880_impl_unitRing), ("loop.example/g00880/impl.tiny", laid_loop_example_g00880_impl_tiny)], narrowed := true }
def FnExactAsinAtUptoSaid : Prop := fnExactAsinAtUptoRow.holds Tryz.pinned (OpenSpec.upto fnExactAsinAtSpec)

/-- 'laws.FnExactAsinI', WHERE WHAT IT READS IS OF BULK AT MOST 1048576: true; the input reads as it did. -/
def fnExactAsinIUptoRow : OpenClaim := { program := "ytmikjgbojknlnaagreatdoor", sum := "475741a88fa1672d84f20e80e7291b0d33e83e4fc3b8da86827b8e9cae1adaf4", func := "loop.example/g00880/laws.FnExactAsinI", spec := "fnExactAsinI", inPlace := ["math/bits.Sub64", "math/bits.Add64"], unfollowed := true, recurses := true, named := ["loop.example/g00880/impl.unitRing", "math/bits.divideError", "math/bits.overflowError", "loop.example/g00880/impl.tiny"], apart := false, laid := [("loop.example/g00880/impl.unitRing", laid_loop_example_g00880_impl_unitRing), ("loop.example/g00880/impl.tiny", laid_loop_example_g00880_impl_tiny)], narrowed := true }
def FnExactAsinIUptoSaid : Prop := fnExactAsinIUptoRow.holds Tryz.pinned (OpenSpec.upto fnExactAsinISpec)

/-- 'laws.FnExactAcosI', WHERE WHAT IT READS IS OF BULK AT MOST 1048576: true; the input reads as it did. -/
def fnExactAcosIUptoRow : OpenClaim := { program := "ytmikjgbojknlnaagreatdoor", sum := "475741a88fa1672d84f20e80e7291b0d33e83e4fc3b8da86827b8e9cae1adaf4", func := "loop.example/g00880/laws.FnExactAcosI", spec := "fnExactAcosI", inPlace := ["math/bits.Sub64", "math/bits.Add64"], unfollowed := true, recurses := true, named := ["math/bits.divideError", "math/bits.overflowError", "loop.example/g00880/impl.unitRing", "loop.example/g00880/impl.tiny"], apart := false, laid := [("loop.example/g00880/impl.unitRing", laid_loop_example_g00880_impl_unitRing), ("loop.example/g00880/impl.tiny", laid_loop_example_g00880_impl_tiny)], narrowed := true }
def FnExactAcosIUptoSaid : Prop := fnExactAcosIUptoRow.holds Tryz.pinned (OpenSpec.upto fnExactAcosISpec)

/-- 'laws.FnExactAtanAt', WHERE WHAT IT READS IS OF BULK AT MOST 1048576: true; the input reads as it did. -/
def fnExactAtanAtUptoRow : OpenClaim := { program := "ytmikjgbojknlnaagreatdoor", sum := "475741a88fa1672d84f20e80e7291b0d33e83e4fc3b8da86827b8e9cae1adaf4", func := "loop.example/g00880/laws.FnExactAtanAt", spec := "fnExactAtanAt", inPlace := ["math/bits.Sub64", "math/bits.Add64"], unfollowed := true, recurses := true, named := ["math/bits.divideError", "math/bits.overflowError", "loop.example/g00880/impl.tiny"], apart := false, laid := [("loop.example/g00880/impl.tiny", laid_loop_example_g00880_impl_tiny)], narrowed := true }
def FnExactAtanAtUptoSaid : Prop := fnExactAtanAtUptoRow.holds Tryz.pinned (OpenSpec.upto fnExactAtanAtSpec)

/-- 'laws.FnExactAtanI', WHERE WHAT IT READS IS OF BULK AT MOST 1048576: true; the input reads as it did. -/
def fnExactAtanIUptoRow : OpenClaim := { program := "ytmikjgbojknlnaagreatdoor", sum := "475741a88fa1672d84f20e80e7291b0d33e83e4fc3b8da86827b8e9cae1adaf4", func := "loop.example/g00880/laws.FnExactAtanI", spec := "fnExactAtanI", inPlace := ["math/bits.Sub64", "math/bits.Add64"], unfollowed := true, recurses := true, named := ["math/bits.divideError", "math/bits.overflowError", "loop.example/g00880/impl.tiny"], apart := false, laid := [("loop.example/g00880/impl.tiny", laid_loop_example_g00880_impl_tiny)], narrowed := true }
def FnExactAtanIUptoSaid : Prop := fnExactAtanIUptoRow.holds Tryz.pinned (OpenSpec.upto fnExactAtanISpec)

/-- 'laws.FnExactDirectionAt', WHERE WHAT IT READS IS OF BULK AT MOST 1048576: true; the input reads as it did. -/
def fnExactDirectionAtUptoRow : OpenClaim := { program := "ytmikjgbojknlnaagreatdoor", sum := "475741a88fa1672d84f20e80e7291b0d33e83e4fc3b8da86827b8e9cae1adaf4", func := "loop.example/g00880/laws.FnExactDirectionAt", spec := "fnExactDirectionAt", inPlace := ["math/bits.Sub64", "math/bits.Add64"], unfollowed := true, recurses := true, named := ["math/bits.divideError", "math/bits.overflowError", "loop.example/g00880/impl.tiny"], apart := false, laid := [("loop.example/g00880/impl.tiny", laid_loop_example_g00880_impl_tiny)], narrowed := true }
def FnExactDirectionAtUptoSaid : Prop := fnExactDirectionAtUptoRow.holds Tryz.pinned (OpenSpec.upto fnExactDirectionAtSpec)

/-- 'laws.FnExactAsinhI', WHERE WHAT IT READS IS OF BULK AT MOST 1048576: true; the input reads as it did. -/
def fnExactAsinhIUptoRow : OpenClaim := { program := "ytmikjgbojknlnaagreatdoor", sum := "475741a88fa1672d84f20e80e7291b0d33e83e4fc3b8da86827b8e9cae1adaf4", func := "loop.example/g00880/laws.FnExactAsinhI", spec := "fnExactAsinhI", inPlace := ["math/bits.Sub64", "math/bits.Add64"], unfollowed := true, recurses := true, named := ["math/bits.divideError", "math/bits.overflowError", "loop.example/g00880/impl.tiny"], apart := false, laid := [("loop.example/g00880/impl.tiny", laid_loop_example_g00880_impl_tiny)], narrowed := true }
def FnExactAsinhIUptoSaid : Prop := fnExactAsinhIUptoRow.holds Tryz.pinned (OpenSpec.upto fnExactAsinhISpec)

/-- 'laws.FnVectors', WHERE WHAT IT READS IS OF BULK AT MOST 1048576: true; the input reads as it did. -/
def fnVectorsUptoRow : OpenClaim := { program := "ytmikjgbojknlnaagreatdoor", sum := "475741a88fa1672d84f20e80e7291b0d33e83e4fc3b8da86827b8e9cae1adaf4", func := "loop.example/g00880/laws.FnVectors", spec := "fnVectors", inPlace := ["math/bits.Sub64", "math/bits.Add64"], unfollowed := true, recurses := true, named := ["math/bits.divideError", "math/bits.overflowError", "loop.example/g00880/impl.unitRing", "loop.example/g00880/impl.tiny"], apart := false, laid := [("loop.example/g00880/impl.unitRing", laid_loop_example_g00880_impl_unitRing), ("loop.example/g00880/impl.tiny", laid_loop_example_g00880_impl_tiny)], narrowed := true }
def FnVectorsUptoSaid : Prop := fnVectorsUptoRow.holds Tryz.pinned (OpenSpec.upto fnVectorsSpec)

end Rows
end Go.Proofs.YtmikjgbojknlnaaGreatDoor
