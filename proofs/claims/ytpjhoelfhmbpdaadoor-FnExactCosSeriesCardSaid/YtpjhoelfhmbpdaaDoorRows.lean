/-
  NARROWER THAN 'FOR EVERY INPUT', by the rows' own cells (each row's printed sentence says how): FnExactSinSeries: laid · FnExactCosSeries: laid · FnExactArcSeries: laid · FnExactCircleAt: laid.
  DERIVED. THE GIVEN ROWS OF THIS SEAT. 4 by the template 'for every input the law returns true; each argument reads behind the call as it read before'; 0 by the template 'total and deterministic' (their statements: YtpjhoelfhmbpdaaDoorTotals.lean).
  GIVEN WITH THE SEED: the statements are not yours to turn. If you find one false, say at which input.
  Laid BY PROGRAM, IN A SANDBOX (cutbox-rows.mjs): the forced cells as the released guide's own fill.sh prints them over the translation dce3b7c44d1433f4… (all of the seat's roots in one cut). By AI agents, Wed Nov 11 2026. No macro, syntax, notation, axiom, sorry.
-/
import Derived.Test.YtpjhoelfhmbpdaaDoorChecked
import GoSem.Claim
import GoSem.ClaimJoined
import GoSem.ClaimMapViews
import Derived.JoinedTies
import Derived.KernelRfl
namespace Go.Proofs.YtpjhoelfhmbpdaaDoor
/- THE CELL 'sum', in the pinned program and in every row, IS THE sha256 OF THE DUMP (.gsa) THAT YtpjhoelfhmbpdaaDoorProg.lean LOADS. Nothing in Lean hashes anything: it is a label: what it is worth is what the hold of that sum in a sandbox is worth. -/
noncomputable def Tryd.pinned : Pinned := { name := "ytpjhoelfhmbpdaadoor", sum := "dce3b7c44d1433f4bb83ea1779afe73aec4e6686ee871ce31a56b2ec676415e9", checked := Tryd.checked }
namespace Rows
def none {H : Type} : Left H := { results := [], args := [] }

/- WHAT THE LISTED PACKAGE-LEVEL VARIABLES READ AS WHEN THE CALL BEGINS. Each datum BY PROGRAM (the guide's laid-datum.mjs) off the statement by which the dump's own 'gosem.cut.vars' lays the variable. In a bare row this is a premise. The card (YtpjhoelfhmbpdaaDoorCards.lean) ties it to the program's text. -/
def laid_loop_example_g00880_impl_unitRing {H : Type} : DataW H := .agg [.lit (.int .i64 (-4294967296)), .lit (.int .i64 4294967296)]
def laid_loop_example_g00880_impl_tiny {H : Type} : DataW H := .agg [.lit (.int .i64 (-1)), .lit (.int .i64 1)]

/-- 'laws.FnExactSinSeries': WHATEVER THE INPUT: true; the input reads as it did. -/
def fnExactSinSeriesSpec : ChangeSpec := { name := "fnExactSinSeries", vars := ["loop.example/g00880/impl.unitRing", "loop.example/g00880/impl.tiny"], fn := fun _ => fun
  | [d, g1, g2] => { results := [.lit (.bool true)], args := [d], vars := [g1, g2] }
  | _ => none }
def fnExactSinSeriesRow : OpenClaim := { program := "ytpjhoelfhmbpdaadoor", sum := "dce3b7c44d1433f4bb83ea1779afe73aec4e6686ee871ce31a56b2ec676415e9", func := "loop.example/g00880/laws.FnExactSinSeries", spec := "fnExactSinSeries", inPlace := ["math/bits.Sub64", "math/bits.Add64"], unfollowed := true, recurses := true, named := ["loop.example/g00880/impl.unitRing", "loop.example/g00880/impl.tiny", "math/bits.divideError", "math/bits.overflowError"], apart := false, laid := [("loop.example/g00880/impl.unitRing", laid_loop_example_g00880_impl_unitRing), ("loop.example/g00880/impl.tiny", laid_loop_example_g00880_impl_tiny)] }
def FnExactSinSeriesSaid : Prop := fnExactSinSeriesRow.holds Tryd.pinned (OpenSpec.ofChange fnExactSinSeriesSpec)

/-- ITS FALSE NEIGHBOUR: 'it returns false'. Refute it at one input. -/
def fnExactSinSeriesWrong : ChangeSpec := { name := "fnExactSinSeries", vars := ["loop.example/g00880/impl.unitRing", "loop.example/g00880/impl.tiny"], fn := fun _ => fun
  | [d, g1, g2] => { results := [.lit (.bool false)], args := [d], vars := [g1, g2] }
  | _ => none }
def FnExactSinSeriesWrongFalsely : Prop := fnExactSinSeriesRow.holds Tryd.pinned (OpenSpec.ofChange fnExactSinSeriesWrong)

/-- 'laws.FnExactCosSeries': WHATEVER THE INPUT: true; the input reads as it did. -/
def fnExactCosSeriesSpec : ChangeSpec := { name := "fnExactCosSeries", vars := ["loop.example/g00880/impl.unitRing", "loop.example/g00880/impl.tiny"], fn := fun _ => fun
  | [d, g1, g2] => { results := [.lit (.bool true)], args := [d], vars := [g1, g2] }
  | _ => none }
def fnExactCosSeriesRow : OpenClaim := { program := "ytpjhoelfhmbpdaadoor", sum := "dce3b7c44d1433f4bb83ea1779afe73aec4e6686ee871ce31a56b2ec676415e9", func := "loop.example/g00880/laws.FnExactCosSeries", spec := "fnExactCosSeries", inPlace := ["math/bits.Sub64", "math/bits.Add64"], unfollowed := true, recurses := true, named := ["loop.example/g00880/impl.unitRing", "loop.example/g00880/impl.tiny", "math/bits.divideError", "math/bits.overflowError"], apart := false, laid := [("loop.example/g00880/impl.unitRing", laid_loop_example_g00880_impl_unitRing), ("loop.example/g00880/impl.tiny", laid_loop_example_g00880_impl_tiny)] }
def FnExactCosSeriesSaid : Prop := fnExactCosSeriesRow.holds Tryd.pinned (OpenSpec.ofChange fnExactCosSeriesSpec)

/-- ITS FALSE NEIGHBOUR: 'it returns false'. Refute it at one input. -/
def fnExactCosSeriesWrong : ChangeSpec := { name := "fnExactCosSeries", vars := ["loop.example/g00880/impl.unitRing", "loop.example/g00880/impl.tiny"], fn := fun _ => fun
  | [d, g1, g2] => { results := [.lit (.bool false)], args := [d], vars := [g1, g2] }
  | _ => none }
def FnExactCosSeriesWrongFalsely : Prop := fnExactCosSeriesRow.holds Tryd.pinned (OpenSpec.ofChange fnExactCosSeriesWrong)

/-- 'laws.FnExactArcSeries': WHATEVER THE INPUT: true; the input reads as it did. -/
def fnExactArcSeriesSpec : ChangeSpec := { name := "fnExactArcSeries", vars := ["loop.example/g00880/impl.tiny"], fn := fun _ => fun
  | [d, g1] => { results := [.lit (.bool true)], args := [d], vars := [g1] }
  | _ => none }
def fnExactArcSeriesRow : OpenClaim := { program := "ytpjhoelfhmbpdaadoor", sum := "dce3b7c44d1433f4bb83ea1779afe73aec4e6686ee871ce31a56b2ec676415e9", func := "loop.example/g00880/laws.FnExactArcSeries", spec := "fnExactArcSeries", inPlace := ["math/bits.Sub64", "math/bits.Add64"], unfollowed := true, recurses := true, named := ["loop.example/g00880/impl.tiny", "math/bits.divideError", "math/bits.overflowError"], apart := false, laid := [("loop.example/g00880/impl.tiny", laid_loop_example_g00880_impl_tiny)] }
def FnExactArcSeriesSaid : Prop := fnExactArcSeriesRow.holds Tryd.pinned (OpenSpec.ofChange fnExactArcSeriesSpec)

/-- ITS FALSE NEIGHBOUR: 'it returns false'. Refute it at one input. -/
def fnExactArcSeriesWrong : ChangeSpec := { name := "fnExactArcSeries", vars := ["loop.example/g00880/impl.tiny"], fn := fun _ => fun
  | [d, g1] => { results := [.lit (.bool false)], args := [d], vars := [g1] }
  | _ => none }
def FnExactArcSeriesWrongFalsely : Prop := fnExactArcSeriesRow.holds Tryd.pinned (OpenSpec.ofChange fnExactArcSeriesWrong)

/-- 'laws.FnExactCircleAt': WHATEVER THE INPUT: true; the input reads as it did. -/
def fnExactCircleAtSpec : ChangeSpec := { name := "fnExactCircleAt", vars := ["loop.example/g00880/impl.unitRing"], fn := fun _ => fun
  | [d, g1] => { results := [.lit (.bool true)], args := [d], vars := [g1] }
  | _ => none }
def fnExactCircleAtRow : OpenClaim := { program := "ytpjhoelfhmbpdaadoor", sum := "dce3b7c44d1433f4bb83ea1779afe73aec4e6686ee871ce31a56b2ec676415e9", func := "loop.example/g00880/laws.FnExactCircleAt", spec := "fnExactCircleAt", inPlace := ["math/bits.Sub64"], unfollowed := true, recurses := true, named := ["loop.example/g00880/impl.unitRing"], apart := false, laid := [("loop.example/g00880/impl.unitRing", laid_loop_example_g00880_impl_unitRing)] }
def FnExactCircleAtSaid : Prop := fnExactCircleAtRow.holds Tryd.pinned (OpenSpec.ofChange fnExactCircleAtSpec)

/-- ITS FALSE NEIGHBOUR: 'it returns false'. Refute it at one input. -/
def fnExactCircleAtWrong : ChangeSpec := { name := "fnExactCircleAt", vars := ["loop.example/g00880/impl.unitRing"], fn := fun _ => fun
  | [d, g1] => { results := [.lit (.bool false)], args := [d], vars := [g1] }
  | _ => none }
def FnExactCircleAtWrongFalsely : Prop := fnExactCircleAtRow.holds Tryd.pinned (OpenSpec.ofChange fnExactCircleAtWrong)

/- THE SECOND FORM. 'bulk': how many values and letters a reading holds, each counted each time it is reached (what is shared counts as often as it is met; a slice's spare places count too). A statement '..UptoSaid' is the law's where the arguments, and the package variables that the reading takes, are together of bulk at most 1048576: NARROWER than '..Said'. Prove '..Said' where nothing that the law and all that it calls make is longer than what came in: it says more and counts as full. Else prove '..UptoSaid'. A law counts once. -/
mutual
def uptoBulk {H : Type} : DataW H → Nat
  | .lit (.string bytes) => bytes.length + 1
  | .lit _ => 1
  | .nil => 1
  | .ptr d => uptoBulk d + 1
  | .slice elems spare => uptoBulkAll elems + uptoBulkAll spare + 1
  | .agg parts => uptoBulkAll parts + 1
  | .iface _ d => uptoBulk d + 1
  | .map entries => uptoBulkEntries entries + 1
  | .held _ => 1
def uptoBulkAll {H : Type} : List (DataW H) → Nat
  | [] => 0
  | d :: r => uptoBulk d + uptoBulkAll r
def uptoBulkEntries {H : Type} : List (Lit × DataW H) → Nat
  | [] => 0
  | x :: r => uptoBulkEntry x + uptoBulkEntries r
def uptoBulkEntry {H : Type} : Lit × DataW H → Nat
  | (.string bytes, d) => bytes.length + uptoBulk d + 1
  | (_, d) => uptoBulk d + 1
 end
def uptoSmall : (H : Type) → List (DataW H) → Bool := fun _ ds => decide (uptoBulkAll ds ≤ 1048576)
def OpenSpec.upto (s : _root_.Go.ChangeSpec) : _root_.Go.OpenSpec := { _root_.Go.OpenSpec.ofChange s with cond := some uptoSmall }

/-- 'laws.FnExactSinSeries', WHERE WHAT IT READS IS OF BULK AT MOST 1048576: true; the input reads as it did. -/
def fnExactSinSeriesUptoRow : OpenClaim := { program := "ytpjhoelfhmbpdaadoor", sum := "dce3b7c44d1433f4bb83ea1779afe73aec4e6686ee871ce31a56b2ec676415e9", func := "loop.example/g00880/laws.FnExactSinSeries", spec := "fnExactSinSeries", inPlace := ["math/bits.Sub64", "math/bits.Add64"], unfollowed := true, recurses := true, named := ["loop.example/g00880/impl.unitRing", "loop.example/g00880/impl.tiny", "math/bits.divideError", "math/bits.overflowError"], apart := false, laid := [("loop.example/g00880/impl.unitRing", laid_loop_example_g00880_impl_unitRing), ("loop.example/g00880/impl.tiny", laid_loop_example_g00880_impl_tiny)], narrowed := true }
def FnExactSinSeriesUptoSaid : Prop := fnExactSinSeriesUptoRow.holds Tryd.pinned (OpenSpec.upto fnExactSinSeriesSpec)

/-- 'laws.FnExactCosSeries', WHERE WHAT IT READS IS OF BULK AT MOST 1048576: true; the input reads as it did. -/
def fnExactCosSeriesUptoRow : OpenClaim := { program := "ytpjhoelfhmbpdaadoor", sum := "dce3b7c44d1433f4bb83ea1779afe73aec4e6686ee871ce31a56b2ec676415e9", func := "loop.example/g00880/laws.FnExactCosSeries", spec := "fnExactCosSeries", inPlace := ["math/bits.Sub64", "math/bits.Add64"], unfollowed := true, recurses := true, named := ["loop.example/g00880/impl.unitRing", "loop.example/g00880/impl.tiny", "math/bits.divideError", "math/bits.overflowError"], apart := false, laid := [("loop.example/g00880/impl.unitRing", laid_loop_example_g00880_impl_unitRing), ("loop.example/g00880/impl.tiny", laid_loop_example_g00880_impl_tiny)], narrowed := true }
def FnExactCosSeriesUptoSaid : Prop := fnExactCosSeriesUptoRow.holds Tryd.pinned (OpenSpec.upto fnExactCosSeriesSpec)

/-- 'laws.FnExactArcSeries', WHERE WHAT IT READS IS OF BULK AT MOST 1048576: true; the input reads as it did. -/
def fnExactArcSeriesUptoRow : OpenClaim := { program := "ytpjhoelfhmbpdaadoor", sum := "dce3b7c44d1433f4bb83ea1779afe73aec4e6686ee871ce31a56b2ec676415e9", func := "loop.example/g00880/laws.FnExactArcSeries", spec := "fnExactArcSeries", inPlace := ["math/bits.Sub64", "math/bits.Add64"], unfollowed := true, recurses := true, named := ["loop.example/g00880/impl.tiny", "math/bits.divideError", "math/bits.overflowError"], apart := false, laid := [("loop.example/g00880/impl.tiny", laid_loop_example_g00880_impl_tiny)], narrowed := true }
def FnExactArcSeriesUptoSaid : Prop := fnExactArcSeriesUptoRow.holds Tryd.pinned (OpenSpec.upto fnExactArcSeriesSpec)

/-- 'laws.FnExactCircleAt', WHERE WHAT IT READS IS OF BULK AT MOST 1048576: true; the input reads as it did. -/
def fnExactCircleAtUptoRow : OpenClaim := { program := "ytpjhoelfhmbpdaadoor", sum := "dce3b7c44d1433f4bb83ea1779afe73aec4e6686ee871ce31a56b2ec676415e9", func := "loop.example/g00880/laws.FnExactCircleAt", spec := "fnExactCircleAt", inPlace := ["math/bits.Sub64"], unfollowed := true, recurses := true, named := ["loop.example/g00880/impl.unitRing"], apart := false, laid := [("loop.example/g00880/impl.unitRing", laid_loop_example_g00880_impl_unitRing)], narrowed := true }
def FnExactCircleAtUptoSaid : Prop := fnExactCircleAtUptoRow.holds Tryd.pinned (OpenSpec.upto fnExactCircleAtSpec)

end Rows
end Go.Proofs.YtpjhoelfhmbpdaaDoor
