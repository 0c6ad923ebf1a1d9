/-
  NARROWER THAN 'FOR EVERY INPUT', by the rows' own cells (each row's printed sentence says how): FnTrig: laid · FnExactSinAt: laid · FnExactCosAt: laid · FnExactSinI: laid · FnExactCosI: laid · FnExactTanI: laid.
  DERIVED. THE GIVEN ROWS OF THIS SEAT. 6 by the template 'for every input the law returns true; each argument reads behind the call as it read before'; 0 by the template 'total and deterministic' (their statements: YtnllaobdogljaaaGreatDoorTotals.lean).
  GIVEN WITH THE SEED: the statements are not yours to turn. If you find one false, say at which input.
  Laid BY PROGRAM, IN A SANDBOX (cutbox-rows.mjs): the forced cells as the released guide's own fill.sh prints them over the translation 6bba555c12e35cbb… (all of the seat's roots in one cut). By AI agents, Wed Nov 11 2026. No macro, syntax, notation, axiom, sorry.
-/
import Derived.Test.YtnllaobdogljaaaGreatDoorChecked
import GoSem.Claim
import GoSem.ClaimJoined
import GoSem.ClaimMapViews
import Derived.JoinedTies
import Derived.KernelRfl
namespace Go.Proofs.YtnllaobdogljaaaGreatDoor
/- THE CELL 'sum', in the pinned program and in every row, IS THE sha256 OF THE DUMP (.gsa) THAT YtnllaobdogljaaaGreatDoorProg.lean LOADS. Nothing in Lean hashes anything: it is a label: what it is worth is what the hold of that sum in a sandbox is worth. -/
noncomputable def Tryz.pinned : Pinned := { name := "ytnllaobdogljaaagreatdoor", sum := "6bba555c12e35cbb42cd8f9b88c2ca74385e6084a299cedde72216c128418899", checked := Tryz.checked }
namespace Rows
def none {H : Type} : Left H := { results := [], args := [] }

/- WHAT THE LISTED PACKAGE-LEVEL VARIABLES READ AS WHEN THE CALL BEGINS. Each datum BY PROGRAM (the guide's laid-datum.mjs) off the statement by which the dump's own 'gosem.cut.vars' lays the variable. In a bare row this is a premise. The card (YtnllaobdogljaaaGreatDoorCards.lean) ties it to the program's text. -/
def laid_loop_example_g00880_impl_unitRing {H : Type} : DataW H := .agg [.lit (.int .i64 (-4294967296)), .lit (.int .i64 4294967296)]
def laid_loop_example_g00880_impl_tiny {H : Type} : DataW H := .agg [.lit (.int .i64 (-1)), .lit (.int .i64 1)]

/-- 'laws.FnTrig': WHATEVER THE INPUT: true; the input reads as it did. -/
def fnTrigSpec : ChangeSpec := { name := "fnTrig", vars := ["loop.example/g00880/impl.unitRing", "loop.example/g00880/impl.tiny"], fn := fun _ => fun
  | [d, g1, g2] => { results := [.lit (.bool true)], args := [d], vars := [g1, g2] }
  | _ => none }
def fnTrigRow : OpenClaim := { program := "ytnllaobdogljaaagreatdoor", sum := "6bba555c12e35cbb42cd8f9b88c2ca74385e6084a299cedde72216c128418899", func := "loop.example/g00880/laws.FnTrig", spec := "fnTrig", inPlace := ["math/bits.Sub64", "math/bits.Add64"], unfollowed := true, recurses := true, named := ["loop.example/g00880/impl.unitRing", "math/bits.divideError", "math/bits.overflowError", "loop.example/g00880/impl.tiny"], apart := false, laid := [("loop.example/g00880/impl.unitRing", laid_loop_example_g00880_impl_unitRing), ("loop.example/g00880/impl.tiny", laid_loop_example_g00880_impl_tiny)] }
def FnTrigSaid : Prop := fnTrigRow.holds Tryz.pinned (OpenSpec.ofChange fnTrigSpec)

/-- ITS FALSE NEIGHBOUR: 'it returns false'. Refute it at one input. -/
def fnTrigWrong : ChangeSpec := { name := "fnTrig", vars := ["loop.example/g00880/impl.unitRing", "loop.example/g00880/impl.tiny"], fn := fun _ => fun
  | [d, g1, g2] => { results := [.lit (.bool false)], args := [d], vars := [g1, g2] }
  | _ => none }
def FnTrigWrongFalsely : Prop := fnTrigRow.holds Tryz.pinned (OpenSpec.ofChange fnTrigWrong)

/-- 'laws.FnExactSinAt': WHATEVER THE INPUT: true; the input reads as it did. -/
def fnExactSinAtSpec : ChangeSpec := { name := "fnExactSinAt", vars := ["loop.example/g00880/impl.unitRing", "loop.example/g00880/impl.tiny"], fn := fun _ => fun
  | [d, g1, g2] => { results := [.lit (.bool true)], args := [d], vars := [g1, g2] }
  | _ => none }
def fnExactSinAtRow : OpenClaim := { program := "ytnllaobdogljaaagreatdoor", sum := "6bba555c12e35cbb42cd8f9b88c2ca74385e6084a299cedde72216c128418899", func := "loop.example/g00880/laws.FnExactSinAt", spec := "fnExactSinAt", inPlace := ["math/bits.Sub64", "math/bits.Add64"], unfollowed := true, recurses := true, named := ["loop.example/g00880/impl.unitRing", "math/bits.divideError", "math/bits.overflowError", "loop.example/g00880/impl.tiny"], apart := false, laid := [("loop.example/g00880/impl.unitRing", laid_loop_example_g00880_impl_unitRing), ("loop.example/g00880/impl.tiny", laid_loop_example_g00880_impl_tiny)] }
def FnExactSinAtSaid : Prop := fnExactSinAtRow.holds Tryz.pinned (OpenSpec.ofChange fnExactSinAtSpec)

/-- ITS FALSE NEIGHBOUR: 'it returns false'. Refute it at one input. -/
def fnExactSinAtWrong : ChangeSpec := { name := "fnExactSinAt", vars := ["loop.example/g00880/impl.unitRing", "loop.example/g00880/impl.tiny"], fn := fun _ => fun
  | [d, g1, g2] => { results := [.lit (.bool false)], args := [d], vars := [g1, g2] }
  | _ => none }
def FnExactSinAtWrongFalsely : Prop := fnExactSinAtRow.holds Tryz.pinned (OpenSpec.ofChange fnExactSinAtWrong)

/-- 'laws.FnExactCosAt': WHATEVER THE INPUT: true; the input reads as it did. -/
def fnExactCosAtSpec : ChangeSpec := { name := "fnExactCosAt", vars := ["loop.example/g00880/impl.unitRing", "loop.example/g00880/impl.tiny"], fn := fun _ => fun
  | [d, g1, g2] => { results := [.lit (.bool true)], args := [d], vars := [g1, g2] }
  | _ => none }
def fnExactCosAtRow : OpenClaim := { program := "ytnllaobdogljaaagreatdoor", sum := "6bba555c12e35cbb42cd8f9b88c2ca74385e6084a299cedde72216c128418899", func := "loop.example/g00880/laws.FnExactCosAt", spec := "fnExactCosAt", inPlace := ["math/bits.Sub64", "math/bits.Add64"], unfollowed := true, recurses := true, named := ["loop.example/g00880/impl.unitRing", "math/bits.divideError", "math/bits.overflowError", "loop.example/g00880/impl.tiny"], apart := false, laid := [("loop.example/g00880/impl.unitRing", laid_loop_example_g00880_impl_unitRing), ("loop.example/g00880/impl.tiny", laid_loop_example_g00880_impl_tiny)] }
def FnExactCosAtSaid : Prop := fnExactCosAtRow.holds Tryz.pinned (OpenSpec.ofChange fnExactCosAtSpec)

/-- ITS FALSE NEIGHBOUR: 'it returns false'. Refute it at one input. -/
def fnExactCosAtWrong : ChangeSpec := { name := "fnExactCosAt", vars := ["loop.example/g00880/impl.unitRing", "loop.example/g00880/impl.tiny"], fn := fun _ => fun
  | [d, g1, g2] => { results := [.lit (.bool false)], args := [d], vars := [g1, g2] }
  | _ => none }
def FnExactCosAtWrongFalsely : Prop := fnExactCosAtRow.holds Tryz.pinned (OpenSpec.ofChange fnExactCosAtWrong)

/-- 'laws.FnExactSinI': WHATEVER THE INPUT: true; the input reads as it did. -/
def fnExactSinISpec : ChangeSpec := { name := "fnExactSinI", vars := ["loop.example/g00880/impl.unitRing", "loop.example/g00880/impl.tiny"], fn := fun _ => fun
  | [d, g1, g2] => { results := [.lit (.bool true)], args := [d], vars := [g1, g2] }
  | _ => none }
def fnExactSinIRow : OpenClaim := { program := "ytnllaobdogljaaagreatdoor", sum := "6bba555c12e35cbb42cd8f9b88c2ca74385e6084a299cedde72216c128418899", func := "loop.example/g00880/laws.FnExactSinI", spec := "fnExactSinI", inPlace := ["math/bits.Sub64", "math/bits.Add64"], unfollowed := true, recurses := true, named := ["loop.example/g00880/impl.unitRing", "math/bits.divideError", "math/bits.overflowError", "loop.example/g00880/impl.tiny"], apart := false, laid := [("loop.example/g00880/impl.unitRing", laid_loop_example_g00880_impl_unitRing), ("loop.example/g00880/impl.tiny", laid_loop_example_g00880_impl_tiny)] }
def FnExactSinISaid : Prop := fnExactSinIRow.holds Tryz.pinned (OpenSpec.ofChange fnExactSinISpec)

/-- ITS FALSE NEIGHBOUR: 'it returns false'. Refute it at one input. -/
def fnExactSinIWrong : ChangeSpec := { name := "fnExactSinI", vars := ["loop.example/g00880/impl.unitRing", "loop.example/g00880/impl.tiny"], fn := fun _ => fun
  | [d, g1, g2] => { results := [.lit (.bool false)], args := [d], vars := [g1, g2] }
  | _ => none }
def FnExactSinIWrongFalsely : Prop := fnExactSinIRow.holds Tryz.pinned (OpenSpec.ofChange fnExactSinIWrong)

/-- 'laws.FnExactCosI': WHATEVER THE INPUT: true; the input reads as it did. -/
def fnExactCosISpec : ChangeSpec := { name := "fnExactCosI", vars := ["loop.example/g00880/impl.unitRing", "loop.example/g00880/impl.tiny"], fn := fun _ => fun
  | [d, g1, g2] => { results := [.lit (.bool true)], args := [d], vars := [g1, g2] }
  | _ => none }
def fnExactCosIRow : OpenClaim := { program := "ytnllaobdogljaaagreatdoor", sum := "6bba555c12e35cbb42cd8f9b88c2ca74385e6084a299cedde72216c128418899", func := "loop.example/g00880/laws.FnExactCosI", spec := "fnExactCosI", inPlace := ["math/bits.Sub64", "math/bits.Add64"], unfollowed := true, recurses := true, named := ["loop.example/g00880/impl.unitRing", "math/bits.divideError", "math/bits.overflowError", "loop.example/g00880/impl.tiny"], apart := false, laid := [("loop.example/g00880/impl.unitRing", laid_loop_example_g00880_impl_unitRing), ("loop.example/g00880/impl.tiny", laid_loop_example_g00880_impl_tiny)] }
def FnExactCosISaid : Prop := fnExactCosIRow.holds Tryz.pinned (OpenSpec.ofChange fnExactCosISpec)

/-- ITS FALSE NEIGHBOUR: 'it returns false'. Refute it at one input. -/
def fnExactCosIWrong : ChangeSpec := { name := "fnExactCosI", vars := ["loop.example/g00880/impl.unitRing", "loop.example/g00880/impl.tiny"], fn := fun _ => fun
  | [d, g1, g2] => { results := [.lit (.bool false)], args := [d], vars := [g1, g2] }
  | _ => none }
def FnExactCosIWrongFalsely : Prop := fnExactCosIRow.holds Tryz.pinned (OpenSpec.ofChange fnExactCosIWrong)

/-- 'laws.FnExactTanI': WHATEVER THE INPUT: true; the input reads as it did. -/
def fnExactTanISpec : ChangeSpec := { name := "fnExactTanI", vars := ["loop.example/g00880/impl.unitRing", "loop.example/g00880/impl.tiny"], fn := fun _ => fun
  | [d, g1, g2] => { results := [.lit (.bool true)], args := [d], vars := [g1, g2] }
  | _ => none }
def fnExactTanIRow : OpenClaim := { program := "ytnllaobdogljaaagreatdoor", sum := "6bba555c12e35cbb42cd8f9b88c2ca74385e6084a299cedde72216c128418899", func := "loop.example/g00880/laws.FnExactTanI", spec := "fnExactTanI", inPlace := ["math/bits.Sub64", "math/bits.Add64"], unfollowed := true, recurses := true, named := ["math/bits.divideError", "math/bits.overflowError", "loop.example/g00880/impl.unitRing", "loop.example/g00880/impl.tiny"], apart := false, laid := [("loop.example/g00880/impl.unitRing", laid_loop_example_g00880_impl_unitRing), ("loop.example/g00880/impl.tiny", laid_loop_example_g00880_impl_tiny)] }
def FnExactTanISaid : Prop := fnExactTanIRow.holds Tryz.pinned (OpenSpec.ofChange fnExactTanISpec)

/-- ITS FALSE NEIGHBOUR: 'it returns false'. Refute it at one input. -/
def fnExactTanIWrong : ChangeSpec := { name := "fnExactTanI", vars := ["loop.example/g00880/impl.unitRing", "loop.example/g00880/impl.tiny"], fn := fun _ => fun
  | [d, g1, g2] => { results := [.lit (.bool false)], args := [d], vars := [g1, g2] }
  | _ => none }
def FnExactTanIWrongFalsely : Prop := fnExactTanIRow.holds Tryz.pinned (OpenSpec.ofChange fnExactTanIWrong)

/- THE SECOND FORM. 'bulk': how many values and letters a reading holds, each counted each time it is reached (what is shared counts as often as it is met; a slice's spare places count too). A statement '..UptoSaid' is the law's where the arguments, and the package variables that the reading takes, are together of bulk at most 1048576: NARROWER than '..Said'. Prove '..Said' where nothing that the law and all that it calls make is longer than what came in: it says more and counts as full. Else prove '..UptoSaid'. A law counts once. -/
mutual
def uptoBulk {H : Type} : DataW H → Nat
  | .lit (.string bytes) => bytes.length + 1
  | .lit _ => 1
  | .nil => 1
  | .ptr d => uptoBulk d + 1
  | .slice elems spare => uptoBulkAll elems + uptoBulkAll spare + 1
  | .agg parts => uptoBulkAll parts + 1
  | .iface _ d => uptoBulk d + 1
  | .map entries => uptoBulkEntries entries + 1
  | .held _ => 1
def uptoBulkAll {H : Type} : List (DataW H) → Nat
  | [] => 0
  | d :: r => uptoBulk d + uptoBulkAll r
def uptoBulkEntries {H : Type} : List (Lit × DataW H) → Nat
  | [] => 0
  | x :: r => uptoBulkEntry x + uptoBulkEntries r
def uptoBulkEntry {H : Type} : Lit × DataW H → Nat
  | (.string bytes, d) => bytes.length + uptoBulk d + 1
  | (_, d) => uptoBulk d + 1
 end
def uptoSmall : (H : Type) → List (DataW H) → Bool := fun _ ds => decide (uptoBulkAll ds ≤ 1048576)
def OpenSpec.upto (s : _root_.Go.ChangeSpec) : _root_.Go.OpenSpec := { _root_.Go.OpenSpec.ofChange s with cond := some uptoSmall }

/-- 'laws.FnTrig', WHERE WHAT IT READS IS OF BULK AT MOST 1048576: true; the input reads as it did. -/
def fnTrigUptoRow : OpenClaim := { program := "ytnllaobdogljaaagreatdoor", sum := "6bba555c12e35cbb42cd8f9b88c2ca74385e6084a299cedde72216c128418899", func := "loop.example/g00880/laws.FnTrig", spec := "fnTrig", inPlace := ["math/bits.Sub64", "math/bits.Add64"], unfollowed := true, recurses := true, named := ["loop.example/g00880/impl.unitRing", "math/bits.divideError", "math/bits.overflowError", "loop.example/g00880/impl.tiny"], apart := false, laid := [("loop.example/g00880/impl.unitRing", laid_loop_example_g00880_impl_unitRing), ("loop.example/g00880/impl.tiny", laid_loop_example_g00880_impl_tiny)], narrowed := true }
def FnTrigUptoSaid : Prop := fnTrigUptoRow.holds Tryz.pinned (OpenSpec.upto fnTrigSpec)

/-- 'laws.FnExactSinAt', WHERE WHAT IT READS IS OF BULK AT MOST 1048576: true; the input reads as it did. -/
def fnExactSinAtUptoRow : OpenClaim := { program := "ytnllaobdogljaaagreatdoor", sum := "6bba555c12e35cbb42cd8f9b88c2ca74385e6084a299cedde72216c128418899", func := "loop.example/g00880/laws.FnExactSinAt", spec := "fnExactSinAt", inPlace := ["math/bits.Sub64", "math/bits.Add64"], unfollowed := true, recurses := true, named := ["loop.example/g00880/impl.unitRing", "math/bits.divideError", "math/bits.overflowError", "loop.example/g00880/impl.tiny"], apart := false, laid := [("loop.example/g00880/impl.unitRing", laid_loop_example_g00880_impl_unitRing), ("loop.example/g00880/impl.tiny", laid_loop_example_g00880_impl_tiny)], narrowed := true }
def FnExactSinAtUptoSaid : Prop := fnExactSinAtUptoRow.holds Tryz.pinned (OpenSpec.upto fnExactSinAtSpec)

/-- 'laws.FnExactCosAt', WHERE WHAT IT READS IS OF BULK AT MOST 1048576: true; the input reads as it did. -/
def fnExactCosAtUptoRow : OpenClaim := { program := "ytnllaobdogljaaagreatdoor", sum := "6bba555c12e35cbb42cd8f9b88c2ca74385e6084a299cedde72216c128418899", func := "loop.example/g00880/laws.FnExactCosAt", spec := "fnExactCosAt", inPlace := ["math/bits.Sub64", "math/bits.Add64"], unfollowed := true, recurses := true, named := ["loop.example/g00880/impl.unitRing", "math/bits.divideError", "math/bits.overflowError", "loop.example/g00880/impl.tiny"], apart := false, laid := [("loop.example/g00880/impl.unitRing", laid_loop_example_g00880_impl_unitRing), ("loop.example/g00880/impl.tiny", laid_loop_example_g00880_impl_tiny)], narrowed := true }
def FnExactCosAtUptoSaid : Prop := fnExactCosAtUptoRow.holds Tryz.pinned (OpenSpec.upto fnExactCosAtSpec)

/-- 'laws.FnExactSinI', WHERE WHAT IT READS IS OF BULK AT MOST 1048576: true; the input reads as it did. -/
def fnExactSinIUptoRow : OpenClaim := { program := "ytnllaobdogljaaagreatdoor", sum := "6bba555c12e35cbb42cd8f9b88c2ca74385e6084a299cedde72216c128418899", func := "loop.example/g00880/laws.FnExactSinI", spec := "fnExactSinI", inPlace := ["math/bits.Sub64", "math/bits.Add64"], unfollowed := true, recurses := true, named := ["loop.example/g00880/impl.unitRing", "math/bits.divideError", "math/bits.overflowError", "loop.example/g00880/impl.tiny"], apart := false, laid := [("loop.example/g00880/impl.unitRing", laid_loop_example_g00880_impl_unitRing), ("loop.example/g00880/impl.tiny", laid_loop_example_g00880_impl_tiny)], narrowed := true }
def FnExactSinIUptoSaid : Prop := fnExactSinIUptoRow.holds Tryz.pinned (OpenSpec.upto fnExactSinISpec)

/-- 'laws.FnExactCosI', WHERE WHAT IT READS IS OF BULK AT MOST 1048576: true; the input reads as it did. -/
def fnExactCosIUptoRow : OpenClaim := { program := "ytnllaobdogljaaagreatdoor", sum := "6bba555c12e35cbb42cd8f9b88c2ca74385e6084a299cedde72216c128418899", func := "loop.example/g00880/laws.FnExactCosI", spec := "fnExactCosI", inPlace := ["math/bits.Sub64", "math/bits.Add64"], unfollowed := true, recurses := true, named := ["loop.example/g00880/impl.unitRing", "math/bits.divideError", "math/bits.overflowError", "loop.example/g00880/impl.tiny"], apart := false, laid := [("loop.example/g00880/impl.unitRing", laid_loop_example_g00880_impl_unitRing), ("loop.example/g00880/impl.tiny", laid_loop_example_g00880_impl_tiny)], narrowed := true }
def FnExactCosIUptoSaid : Prop := fnExactCosIUptoRow.holds Tryz.pinned (OpenSpec.upto fnExactCosISpec)

/-- 'laws.FnExactTanI', WHERE WHAT IT READS IS OF BULK AT MOST 1048576: true; the input reads as it did. -/
def fnExactTanIUptoRow : OpenClaim := { program := "ytnllaobdogljaaagreatdoor", sum := "6bba555c12e35cbb42cd8f9b88c2ca74385e6084a299cedde72216c128418899", func := "loop.example/g00880/laws.FnExactTanI", spec := "fnExactTanI", inPlace := ["math/bits.Sub64", "math/bits.Add64"], unfollowed := true, recurses := true, named := ["math/bits.divideError", "math/bits.overflowError", "loop.example/g00880/impl.unitRing", "loop.example/g00880/impl.tiny"], apart := false, laid := [("loop.example/g00880/impl.unitRing", laid_loop_example_g00880_impl_unitRing), ("loop.example/g00880/impl.tiny", laid_loop_example_g00880_impl_tiny)], narrowed := true }
def FnExactTanIUptoSaid : Prop := fnExactTanIUptoRow.holds Tryz.pinned (OpenSpec.upto fnExactTanISpec)

end Rows
end Go.Proofs.YtnllaobdogljaaaGreatDoor
