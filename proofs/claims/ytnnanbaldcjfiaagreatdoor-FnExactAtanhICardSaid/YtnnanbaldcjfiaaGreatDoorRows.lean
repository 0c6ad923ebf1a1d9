/-
  NARROWER THAN 'FOR EVERY INPUT', by the rows' own cells (each row's printed sentence says how): FnExactLogAt: laid · FnExactExpI: laid · FnExactLogI: laid · FnExactSinhI: laid · FnExactCoshI: laid · FnExactTanhI: laid · FnExactAsinhI: laid · FnExactAtanhI: laid.
  DERIVED. THE GIVEN ROWS OF THIS SEAT. 8 by the template 'for every input the law returns true; each argument reads behind the call as it read before'; 0 by the template 'total and deterministic' (their statements: YtnnanbaldcjfiaaGreatDoorTotals.lean).
  GIVEN WITH THE SEED: the statements are not yours to turn. If you find one false, say at which input.
  Laid BY PROGRAM, IN A SANDBOX (cutbox-rows.mjs): the forced cells as the released guide's own fill.sh prints them over the translation f21e40b3747e3a2e… (all of the seat's roots in one cut). By AI agents, Wed Nov 11 2026. No macro, syntax, notation, axiom, sorry.
-/
import Derived.Test.YtnnanbaldcjfiaaGreatDoorChecked
import GoSem.Claim
import GoSem.ClaimJoined
import GoSem.ClaimMapViews
import Derived.JoinedTies
import Derived.KernelRfl
namespace Go.Proofs.YtnnanbaldcjfiaaGreatDoor
/- THE CELL 'sum', in the pinned program and in every row, IS THE sha256 OF THE DUMP (.gsa) THAT YtnnanbaldcjfiaaGreatDoorProg.lean LOADS. Nothing in Lean hashes anything: it is a label: what it is worth is what the hold of that sum in a sandbox is worth. -/
noncomputable def Tryz.pinned : Pinned := { name := "ytnnanbaldcjfiaagreatdoor", sum := "f21e40b3747e3a2efdd5a91be22860f6c42eaa81870832b0630d082f5c39744e", checked := Tryz.checked }
namespace Rows
def none {H : Type} : Left H := { results := [], args := [] }

/- WHAT THE LISTED PACKAGE-LEVEL VARIABLES READ AS WHEN THE CALL BEGINS. Each datum BY PROGRAM (the guide's laid-datum.mjs) off the statement by which the dump's own 'gosem.cut.vars' lays the variable. In a bare row this is a premise. The card (YtnnanbaldcjfiaaGreatDoorCards.lean) ties it to the program's text. -/
def laid_loop_example_g00880_impl_tiny {H : Type} : DataW H := .agg [.lit (.int .i64 (-1)), .lit (.int .i64 1)]

/-- 'laws.FnExactLogAt': WHATEVER THE INPUT: true; the input reads as it did. -/
def fnExactLogAtSpec : ChangeSpec := { name := "fnExactLogAt", vars := ["loop.example/g00880/impl.tiny"], fn := fun _ => fun
  | [d, g1] => { results := [.lit (.bool true)], args := [d], vars := [g1] }
  | _ => none }
def fnExactLogAtRow : OpenClaim := { program := "ytnnanbaldcjfiaagreatdoor", sum := "f21e40b3747e3a2efdd5a91be22860f6c42eaa81870832b0630d082f5c39744e", func := "loop.example/g00880/laws.FnExactLogAt", spec := "fnExactLogAt", inPlace := ["math/bits.Sub64", "math/bits.Add64"], unfollowed := true, recurses := true, named := ["math/bits.divideError", "math/bits.overflowError", "loop.example/g00880/impl.tiny"], apart := false, laid := [("loop.example/g00880/impl.tiny", laid_loop_example_g00880_impl_tiny)] }
def FnExactLogAtSaid : Prop := fnExactLogAtRow.holds Tryz.pinned (OpenSpec.ofChange fnExactLogAtSpec)

/-- ITS FALSE NEIGHBOUR: 'it returns false'. Refute it at one input. -/
def fnExactLogAtWrong : ChangeSpec := { name := "fnExactLogAt", vars := ["loop.example/g00880/impl.tiny"], fn := fun _ => fun
  | [d, g1] => { results := [.lit (.bool false)], args := [d], vars := [g1] }
  | _ => none }
def FnExactLogAtWrongFalsely : Prop := fnExactLogAtRow.holds Tryz.pinned (OpenSpec.ofChange fnExactLogAtWrong)

/-- 'laws.FnExactExpI': WHATEVER THE INPUT: true; the input reads as it did. -/
def fnExactExpISpec : ChangeSpec := { name := "fnExactExpI", vars := ["loop.example/g00880/impl.tiny"], fn := fun _ => fun
  | [d, g1] => { results := [.lit (.bool true)], args := [d], vars := [g1] }
  | _ => none }
def fnExactExpIRow : OpenClaim := { program := "ytnnanbaldcjfiaagreatdoor", sum := "f21e40b3747e3a2efdd5a91be22860f6c42eaa81870832b0630d082f5c39744e", func := "loop.example/g00880/laws.FnExactExpI", spec := "fnExactExpI", inPlace := ["math/bits.Sub64", "math/bits.Add64"], unfollowed := true, recurses := true, named := ["math/bits.divideError", "math/bits.overflowError", "loop.example/g00880/impl.tiny"], apart := false, laid := [("loop.example/g00880/impl.tiny", laid_loop_example_g00880_impl_tiny)] }
def FnExactExpISaid : Prop := fnExactExpIRow.holds Tryz.pinned (OpenSpec.ofChange fnExactExpISpec)

/-- ITS FALSE NEIGHBOUR: 'it returns false'. Refute it at one input. -/
def fnExactExpIWrong : ChangeSpec := { name := "fnExactExpI", vars := ["loop.example/g00880/impl.tiny"], fn := fun _ => fun
  | [d, g1] => { results := [.lit (.bool false)], args := [d], vars := [g1] }
  | _ => none }
def FnExactExpIWrongFalsely : Prop := fnExactExpIRow.holds Tryz.pinned (OpenSpec.ofChange fnExactExpIWrong)

/-- 'laws.FnExactLogI': WHATEVER THE INPUT: true; the input reads as it did. -/
def fnExactLogISpec : ChangeSpec := { name := "fnExactLogI", vars := ["loop.example/g00880/impl.tiny"], fn := fun _ => fun
  | [d, g1] => { results := [.lit (.bool true)], args := [d], vars := [g1] }
  | _ => none }
def fnExactLogIRow : OpenClaim := { program := "ytnnanbaldcjfiaagreatdoor", sum := "f21e40b3747e3a2efdd5a91be22860f6c42eaa81870832b0630d082f5c39744e", func := "loop.example/g00880/laws.FnExactLogI", spec := "fnExactLogI", inPlace := ["math/bits.Sub64", "math/bits.Add64"], unfollowed := true, recurses := true, named := ["math/bits.divideError", "math/bits.overflowError", "loop.example/g00880/impl.tiny"], apart := false, laid := [("loop.example/g00880/impl.tiny", laid_loop_example_g00880_impl_tiny)] }
def FnExactLogISaid : Prop := fnExactLogIRow.holds Tryz.pinned (OpenSpec.ofChange fnExactLogISpec)

/-- ITS FALSE NEIGHBOUR: 'it returns false'. Refute it at one input. -/
def fnExactLogIWrong : ChangeSpec := { name := "fnExactLogI", vars := ["loop.example/g00880/impl.tiny"], fn := fun _ => fun
  | [d, g1] => { results := [.lit (.bool false)], args := [d], vars := [g1] }
  | _ => none }
def FnExactLogIWrongFalsely : Prop := fnExactLogIRow.holds Tryz.pinned (OpenSpec.ofChange fnExactLogIWrong)

/-- 'laws.FnExactSinhI': WHATEVER THE INPUT: true; the input reads as it did. -/
def fnExactSinhISpec : ChangeSpec := { name := "fnExactSinhI", vars := ["loop.example/g00880/impl.tiny"], fn := fun _ => fun
  | [d, g1] => { results := [.lit (.bool true)], args := [d], vars := [g1] }
  | _ => none }
def fnExactSinhIRow : OpenClaim := { program := "ytnnanbaldcjfiaagreatdoor", sum := "f21e40b3747e3a2efdd5a91be22860f6c42eaa81870832b0630d082f5c39744e", func := "loop.example/g00880/laws.FnExactSinhI", spec := "fnExactSinhI", inPlace := ["math/bits.Sub64", "math/bits.Add64"], unfollowed := true, recurses := true, named := ["math/bits.divideError", "math/bits.overflowError", "loop.example/g00880/impl.tiny"], apart := false, laid := [("loop.example/g00880/impl.tiny", laid_loop_example_g00880_impl_tiny)] }
def FnExactSinhISaid : Prop := fnExactSinhIRow.holds Tryz.pinned (OpenSpec.ofChange fnExactSinhISpec)

/-- ITS FALSE NEIGHBOUR: 'it returns false'. Refute it at one input. -/
def fnExactSinhIWrong : ChangeSpec := { name := "fnExactSinhI", vars := ["loop.example/g00880/impl.tiny"], fn := fun _ => fun
  | [d, g1] => { results := [.lit (.bool false)], args := [d], vars := [g1] }
  | _ => none }
def FnExactSinhIWrongFalsely : Prop := fnExactSinhIRow.holds Tryz.pinned (OpenSpec.ofChange fnExactSinhIWrong)

/-- 'laws.FnExactCoshI': WHATEVER THE INPUT: true; the input reads as it did. -/
def fnExactCoshISpec : ChangeSpec := { name := "fnExactCoshI", vars := ["loop.example/g00880/impl.tiny"], fn := fun _ => fun
  | [d, g1] => { results := [.lit (.bool true)], args := [d], vars := [g1] }
  | _ => none }
def fnExactCoshIRow : OpenClaim := { program := "ytnnanbaldcjfiaagreatdoor", sum := "f21e40b3747e3a2efdd5a91be22860f6c42eaa81870832b0630d082f5c39744e", func := "loop.example/g00880/laws.FnExactCoshI", spec := "fnExactCoshI", inPlace := ["math/bits.Sub64", "math/bits.Add64"], unfollowed := true, recurses := true, named := ["math/bits.divideError", "math/bits.overflowError", "loop.example/g00880/impl.tiny"], apart := false, laid := [("loop.example/g00880/impl.tiny", laid_loop_example_g00880_impl_tiny)] }
def FnExactCoshISaid : Prop := fnExactCoshIRow.holds Tryz.pinned (OpenSpec.ofChange fnExactCoshISpec)

/-- ITS FALSE NEIGHBOUR: 'it returns false'. Refute it at one input. -/
def fnExactCoshIWrong : ChangeSpec := { name := "fnExactCoshI", vars := ["loop.example/g00880/impl.tiny"], fn := fun _ => fun
  | [d, g1] => { results := [.lit (.bool false)], args := [d], vars := [g1] }
  | _ => none }
def FnExactCoshIWrongFalsely : Prop := fnExactCoshIRow.holds Tryz.pinned (OpenSpec.ofChange fnExactCoshIWrong)

/-- 'laws.FnExactTanhI': WHATEVER THE INPUT: true; the input reads as it did. -/
def fnExactTanhISpec : ChangeSpec := { name := "fnExactTanhI", vars := ["loop.example/g00880/impl.tiny"], fn := fun _ => fun
  | [d, g1] => { results := [.lit (.bool true)], args := [d], vars := [g1] }
  | _ => none }
def fnExactTanhIRow : OpenClaim := { program := "ytnnanbaldcjfiaagreatdoor", sum := "f21e40b3747e3a2efdd5a91be22860f6c42eaa81870832b0630d082f5c39744e", func := "loop.example/g00880/laws.FnExactTanhI", spec := "fnExactTanhI", inPlace := ["math/bits.Sub64", "math/bits.Add64"], unfollowed := true, recurses := true, named := ["math/bits.divideError", "math/bits.overflowError", "loop.example/g00880/impl.tiny"], apart := false, laid := [("loop.example/g00880/impl.tiny", laid_loop_example_g00880_impl_tiny)] }
def FnExactTanhISaid : Prop := fnExactTanhIRow.holds Tryz.pinned (OpenSpec.ofChange fnExactTanhISpec)

/-- ITS FALSE NEIGHBOUR: 'it returns false'. Refute it at one input. -/
def fnExactTanhIWrong : ChangeSpec := { name := "fnExactTanhI", vars := ["loop.example/g00880/impl.tiny"], fn := fun _ => fun
  | [d, g1] => { results := [.lit (.bool false)], args := [d], vars := [g1] }
  | _ => none }
def FnExactTanhIWrongFalsely : Prop := fnExactTanhIRow.holds Tryz.pinned (OpenSpec.ofChange fnExactTanhIWrong)

/-- 'laws.FnExactAsinhI': WHATEVER THE INPUT: true; the input reads as it did. -/
def fnExactAsinhISpec : ChangeSpec := { name := "fnExactAsinhI", vars := ["loop.example/g00880/impl.tiny"], fn := fun _ => fun
  | [d, g1] => { results := [.lit (.bool true)], args := [d], vars := [g1] }
  | _ => none }
def fnExactAsinhIRow : OpenClaim := { program := "ytnnanbaldcjfiaagreatdoor", sum := "f21e40b3747e3a2efdd5a91be22860f6c42eaa81870832b0630d082f5c39744e", func := "loop.example/g00880/laws.FnExactAsinhI", spec := "fnExactAsinhI", inPlace := ["math/bits.Sub64", "math/bits.Add64"], unfollowed := true, recurses := true, named := ["math/bits.divideError", "math/bits.overflowError", "loop.example/g00880/impl.tiny"], apart := false, laid := [("loop.example/g00880/impl.tiny", laid_loop_example_g00880_impl_tiny)] }
def FnExactAsinhISaid : Prop := fnExactAsinhIRow.holds Tryz.pinned (OpenSpec.ofChange fnExactAsinhISpec)

/-- ITS FALSE NEIGHBOUR: 'it returns false'. Refute it at one input. -/
def fnExactAsinhIWrong : ChangeSpec := { name := "fnExactAsinhI", vars := ["loop.example/g00880/impl.tiny"], fn := fun _ => fun
  | [d, g1] => { results := [.lit (.bool false)], args := [d], vars := [g1] }
  | _ => none }
def FnExactAsinhIWrongFalsely : Prop := fnExactAsinhIRow.holds Tryz.pinned (OpenSpec.ofChange fnExactAsinhIWrong)

/-- 'laws.FnExactAtanhI': WHATEVER THE INPUT: true; the input reads as it did. -/
def fnExactAtanhISpec : ChangeSpec := { name := "fnExactAtanhI", vars := ["loop.example/g00880/impl.tiny"], fn := fun _ => fun
  | [d, g1] => { results := [.lit (.bool true)], args := [d], vars := [g1] }
  | _ => none }
def fnExactAtanhIRow : OpenClaim := { program := "ytnnanbaldcjfiaagreatdoor", sum := "f21e40b3747e3a2efdd5a91be22860f6c42eaa81870832b0630d082f5c39744e", func := "loop.example/g00880/laws.FnExactAtanhI", spec := "fnExactAtanhI", inPlace := ["math/bits.Sub64", "math/bits.Add64"], unfollowed := true, recurses := true, named := ["math/bits.divideError", "math/bits.overflowError", "loop.example/g00880/impl.tiny"], apart := false, laid := [("loop.example/g00880/impl.tiny", laid_loop_example_g00880_impl_tiny)] }
def FnExactAtanhISaid : Prop := fnExactAtanhIRow.holds Tryz.pinned (OpenSpec.ofChange fnExactAtanhISpec)

/-- ITS FALSE NEIGHBOUR: 'it returns false'. Refute it at one input. -/
def fnExactAtanhIWrong : ChangeSpec := { name := "fnExactAtanhI", vars := ["loop.example/g00880/impl.tiny"], fn := fun _ => fun
  | [d, g1] => { results := [.lit (.bool false)], args := [d], vars := [g1] }
  | _ => none }
def FnExactAtanhIWrongFalsely : Prop := fnExactAtanhIRow.holds Tryz.pinned (OpenSpec.ofChange fnExactAtanhIWrong)

/- THE SECOND FORM. 'bulk': how many values and letters a reading holds, each counted each time it is reached (what is shared counts as often as it is met; a slice's spare places count too). A statement '..UptoSaid' is the law's where the arguments, and the package variables that the reading takes, are together of bulk at most 1048576: NARROWER than '..Said'. Prove '..Said' where nothing that the law and all that it calls make is longer than what came in: it says more and counts as full. Else prove '..UptoSaid'. A law counts once. -/
mutual
def uptoBulk {H : Type} : DataW H → Nat
  | .lit (.string bytes) => bytes.length + 1
  | .lit _ => 1
  | .nil => 1
  | .ptr d => uptoBulk d + 1
  | .slice elems spare => uptoBulkAll elems + uptoBulkAll spare + 1
  | .agg parts => uptoBulkAll parts + 1
  | .iface _ d => uptoBulk d + 1
  | .map entries => uptoBulkEntries entries + 1
  | .held _ => 1
def uptoBulkAll {H : Type} : List (DataW H) → Nat
  | [] => 0
  | d :: r => uptoBulk d + uptoBulkAll r
def uptoBulkEntries {H : Type} : List (Lit × DataW H) → Nat
  | [] => 0
  | x :: r => uptoBulkEntry x + uptoBulkEntries r
def uptoBulkEntry {H : Type} : Lit × DataW H → Nat
  | (.string bytes, d) => bytes.length + uptoBulk d + 1
  | (_, d) => uptoBulk d + 1
 end
def uptoSmall : (H : Type) → List (DataW H) → Bool := fun _ ds => decide (uptoBulkAll ds ≤ 1048576)
def OpenSpec.upto (s : _root_.Go.ChangeSpec) : _root_.Go.OpenSpec := { _root_.Go.OpenSpec.ofChange s with cond := some uptoSmall }

/-- 'laws.FnExactLogAt', WHERE WHAT IT READS IS OF BULK AT MOST 1048576: true; the input reads as it did. -/
def fnExactLogAtUptoRow : OpenClaim := { program := "ytnnanbaldcjfiaagreatdoor", sum := "f21e40b3747e3a2efdd5a91be22860f6c42eaa81870832b0630d082f5c39744e", func := "loop.example/g00880/laws.FnExactLogAt", spec := "fnExactLogAt", inPlace := ["math/bits.Sub64", "math/bits.Add64"], unfollowed := true, recurses := true, named := ["math/bits.divideError", "math/bits.overflowError", "loop.example/g00880/impl.tiny"], apart := false, laid := [("loop.example/g00880/impl.tiny", laid_loop_example_g00880_impl_tiny)], narrowed := true }
def FnExactLogAtUptoSaid : Prop := fnExactLogAtUptoRow.holds Tryz.pinned (OpenSpec.upto fnExactLogAtSpec)

/-- 'laws.FnExactExpI', WHERE WHAT IT READS IS OF BULK AT MOST 1048576: true; the input reads as it did. -/
def fnExactExpIUptoRow : OpenClaim := { program := "ytnnanbaldcjfiaagreatdoor", sum := "f21e40b3747e3a2efdd5a91be22860f6c42eaa81870832b0630d082f5c39744e", func := "loop.example/g00880/laws.FnExactExpI", spec := "fnExactExpI", inPlace := ["math/bits.Sub64", "math/bits.Add64"], unfollowed := true, recurses := true, named := ["math/bits.divideError", "math/bits.overflowError", "loop.example/g00880/impl.tiny"], apart := false, laid := [("loop.example/g00880/impl.tiny", laid_loop_example_g00880_impl_tiny)], narrowed := true }
def FnExactExpIUptoSaid : Prop := fnExactExpIUptoRow.holds Tryz.pinned (OpenSpec.upto fnExactExpISpec)

/-- 'laws.FnExactLogI', WHERE WHAT IT READS IS OF BULK AT MOST 1048576: true; the input reads as it did. -/
def fnExactLogIUptoRow : OpenClaim := { program := "ytnnanbaldcjfiaagreatdoor", sum := "f21e40b3747e3a2efdd5a91be22860f6c42eaa81870832b0630d082f5c39744e", func := "loop.example/g00880/laws.FnExactLogI", spec := "fnExactLogI", inPlace := ["math/bits.Sub64", "math/bits.Add64"], unfollowed := true, recurses := true, named := ["math/bits.divideError", "math/bits.overflowError", "loop.example/g00880/impl.tiny"], apart := false, laid := [("loop.example/g00880/impl.tiny", laid_loop_example_g00880_impl_tiny)], narrowed := true }
def FnExactLogIUptoSaid : Prop := fnExactLogIUptoRow.holds Tryz.pinned (OpenSpec.upto fnExactLogISpec)

/-- 'laws.FnExactSinhI', WHERE WHAT IT READS IS OF BULK AT MOST 1048576: true; the input reads as it did. -/
def fnExactSinhIUptoRow : OpenClaim := { program := "ytnnanbaldcjfiaagreatdoor", sum := "f21e40b3747e3a2efdd5a91be22860f6c42eaa81870832b0630d082f5c39744e", func := "loop.example/g00880/laws.FnExactSinhI", spec := "fnExactSinhI", inPlace := ["math/bits.Sub64", "math/bits.Add64"], unfollowed := true, recurses := true, named := ["math/bits.divideError", "math/bits.overflowError", "loop.example/g00880/impl.tiny"], apart := false, laid := [("loop.example/g00880/impl.tiny", laid_loop_example_g00880_impl_tiny)], narrowed := true }
def FnExactSinhIUptoSaid : Prop := fnExactSinhIUptoRow.holds Tryz.pinned (OpenSpec.upto fnExactSinhISpec)

/-- 'laws.FnExactCoshI', WHERE WHAT IT READS IS OF BULK AT MOST 1048576: true; the input reads as it did. -/
def fnExactCoshIUptoRow : OpenClaim := { program := "ytnnanbaldcjfiaagreatdoor", sum := "f21e40b3747e3a2efdd5a91be22860f6c42eaa81870832b0630d082f5c39744e", func := "loop.example/g00880/laws.FnExactCoshI", spec := "fnExactCoshI", inPlace := ["math/bits.Sub64", "math/bits.Add64"], unfollowed := true, recurses := true, named := ["math/bits.divideError", "math/bits.overflowError", "loop.example/g00880/impl.tiny"], apart := false, laid := [("loop.example/g00880/impl.tiny", laid_loop_example_g00880_impl_tiny)], narrowed := true }
def FnExactCoshIUptoSaid : Prop := fnExactCoshIUptoRow.holds Tryz.pinned (OpenSpec.upto fnExactCoshISpec)

/-- 'laws.FnExactTanhI', WHERE WHAT IT READS IS OF BULK AT MOST 1048576: true; the input reads as it did. -/
def fnExactTanhIUptoRow : OpenClaim := { program := "ytnnanbaldcjfiaagreatdoor", sum := "f21e40b3747e3a2efdd5a91be22860f6c42eaa81870832b0630d082f5c39744e", func := "loop.example/g00880/laws.FnExactTanhI", spec := "fnExactTanhI", inPlace := ["math/bits.Sub64", "math/bits.Add64"], unfollowed := true, recurses := true, named := ["math/bits.divideError", "math/bits.overflowError", "loop.example/g00880/impl.tiny"], apart := false, laid := [("loop.example/g00880/impl.tiny", laid_loop_example_g00880_impl_tiny)], narrowed := true }
def FnExactTanhIUptoSaid : Prop := fnExactTanhIUptoRow.holds Tryz.pinned (OpenSpec.upto fnExactTanhISpec)

/-- 'laws.FnExactAsinhI', WHERE WHAT IT READS IS OF BULK AT MOST 1048576: true; the input reads as it did. -/
def fnExactAsinhIUptoRow : OpenClaim := { program := "ytnnanbaldcjfiaagreatdoor", sum := "f21e40b3747e3a2efdd5a91be22860f6c42eaa81870832b0630d082f5c39744e", func := "loop.example/g00880/laws.FnExactAsinhI", spec := "fnExactAsinhI", inPlace := ["math/bits.Sub64", "math/bits.Add64"], unfollowed := true, recurses := true, named := ["math/bits.divideError", "math/bits.overflowError", "loop.example/g00880/impl.tiny"], apart := false, laid := [("loop.example/g00880/impl.tiny", laid_loop_example_g00880_impl_tiny)], narrowed := true }
def FnExactAsinhIUptoSaid : Prop := fnExactAsinhIUptoRow.holds Tryz.pinned (OpenSpec.upto fnExactAsinhISpec)

/-- 'laws.FnExactAtanhI', WHERE WHAT IT READS IS OF BULK AT MOST 1048576: true; the input reads as it did. -/
def fnExactAtanhIUptoRow : OpenClaim := { program := "ytnnanbaldcjfiaagreatdoor", sum := "f21e40b3747e3a2efdd5a91be22860f6c42eaa81870832b0630d082f5c39744e", func := "loop.example/g00880/laws.FnExactAtanhI", spec := "fnExactAtanhI", inPlace := ["math/bits.Sub64", "math/bits.Add64"], unfollowed := true, recurses := true, named := ["math/bits.divideError", "math/bits.overflowError", "loop.example/g00880/impl.tiny"], apart := false, laid := [("loop.example/g00880/impl.tiny", laid_loop_example_g00880_impl_tiny)], narrowed := true }
def FnExactAtanhIUptoSaid : Prop := fnExactAtanhIUptoRow.holds Tryz.pinned (OpenSpec.upto fnExactAtanhISpec)

end Rows
end Go.Proofs.YtnnanbaldcjfiaaGreatDoor
