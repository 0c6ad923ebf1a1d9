/-
  No cell of these rows narrows 'for every input' (looked for: loops, veiled, ifaces, maps, wideKeys, modest, calm, conditions, laid).
  DERIVED. THE GIVEN ROWS OF THIS SEAT. 8 by the template 'for every input the law returns true; each argument reads behind the call as it read before'; 0 by the template 'total and deterministic' (their statements: YtnfkddaigfjigaaTotals.lean).
  GIVEN WITH THE SEED: the statements are not yours to turn. If you find one false, say at which input.
  Laid BY PROGRAM, IN A SANDBOX (cutbox-rows.mjs): the forced cells as the released guide's own fill.sh prints them over the translation 74a2fb4687fb46e1… (all of the seat's roots in one cut). By AI agents, Wed Nov 11 2026. No macro, syntax, notation, axiom, sorry.
-/
import Derived.Test.YtnfkddaigfjigaaChecked
import GoSem.Claim
import GoSem.ClaimJoined
import GoSem.ClaimMapViews
import Derived.JoinedTies
import Derived.KernelRfl
namespace Go.Proofs.Ytnfkddaigfjigaa
/- THE CELL 'sum', in the pinned program and in every row, IS THE sha256 OF THE DUMP (.gsa) THAT YtnfkddaigfjigaaProg.lean LOADS. Nothing in Lean hashes anything: it is a label: what it is worth is what the hold of that sum in a sandbox is worth. -/
noncomputable def Try.pinned : Pinned := { name := "ytnfkddaigfjigaa", sum := "74a2fb4687fb46e1452e365d6d64ee12099b33354e00a95832d0a052da02cbc0", checked := Try.checked }
namespace Rows
def none {H : Type} : Left H := { results := [], args := [] }

/-- 'laws.FnWide': WHATEVER THE INPUT: true; the input reads as it did. -/
def fnWideSpec : ChangeSpec := { name := "fnWide", fn := fun _ => fun
  | [d1, d2] => { results := [.lit (.bool true)], args := [d1, d2] }
  | _ => none }
def fnWideRow : OpenClaim := { program := "ytnfkddaigfjigaa", sum := "74a2fb4687fb46e1452e365d6d64ee12099b33354e00a95832d0a052da02cbc0", func := "loop.example/g00880/laws.FnWide", spec := "fnWide", inPlace := ["math/bits.Sub64", "math/bits.Add64"], unfollowed := true, recurses := true, named := ["math/bits.divideError", "math/bits.overflowError"], apart := false }
def FnWideSaid : Prop := fnWideRow.holds Try.pinned (OpenSpec.ofChange fnWideSpec)

/-- ITS FALSE NEIGHBOUR: 'it returns false'. Refute it at one input. -/
def fnWideWrong : ChangeSpec := { name := "fnWide", fn := fun _ => fun
  | [d1, d2] => { results := [.lit (.bool false)], args := [d1, d2] }
  | _ => none }
def FnWideWrongFalsely : Prop := fnWideRow.holds Try.pinned (OpenSpec.ofChange fnWideWrong)

/-- 'laws.FnProducts': WHATEVER THE INPUT: true; the input reads as it did. -/
def fnProductsSpec : ChangeSpec := { name := "fnProducts", fn := fun _ => fun
  | [d1, d2] => { results := [.lit (.bool true)], args := [d1, d2] }
  | _ => none }
def fnProductsRow : OpenClaim := { program := "ytnfkddaigfjigaa", sum := "74a2fb4687fb46e1452e365d6d64ee12099b33354e00a95832d0a052da02cbc0", func := "loop.example/g00880/laws.FnProducts", spec := "fnProducts", inPlace := ["math/bits.Sub64"], unfollowed := true, recurses := true, named := ["math/bits.divideError", "math/bits.overflowError"], apart := false }
def FnProductsSaid : Prop := fnProductsRow.holds Try.pinned (OpenSpec.ofChange fnProductsSpec)

/-- ITS FALSE NEIGHBOUR: 'it returns false'. Refute it at one input. -/
def fnProductsWrong : ChangeSpec := { name := "fnProducts", fn := fun _ => fun
  | [d1, d2] => { results := [.lit (.bool false)], args := [d1, d2] }
  | _ => none }
def FnProductsWrongFalsely : Prop := fnProductsRow.holds Try.pinned (OpenSpec.ofChange fnProductsWrong)

/-- 'laws.FnExactAndAnswer': WHATEVER THE INPUT: true; the input reads as it did. -/
def fnExactAndAnswerSpec : ChangeSpec := { name := "fnExactAndAnswer", fn := fun _ => fun
  | [d1, d2] => { results := [.lit (.bool true)], args := [d1, d2] }
  | _ => none }
def fnExactAndAnswerRow : OpenClaim := { program := "ytnfkddaigfjigaa", sum := "74a2fb4687fb46e1452e365d6d64ee12099b33354e00a95832d0a052da02cbc0", func := "loop.example/g00880/laws.FnExactAndAnswer", spec := "fnExactAndAnswer", apart := false }
def FnExactAndAnswerSaid : Prop := fnExactAndAnswerRow.holds Try.pinned (OpenSpec.ofChange fnExactAndAnswerSpec)

/-- ITS FALSE NEIGHBOUR: 'it returns false'. Refute it at one input. -/
def fnExactAndAnswerWrong : ChangeSpec := { name := "fnExactAndAnswer", fn := fun _ => fun
  | [d1, d2] => { results := [.lit (.bool false)], args := [d1, d2] }
  | _ => none }
def FnExactAndAnswerWrongFalsely : Prop := fnExactAndAnswerRow.holds Try.pinned (OpenSpec.ofChange fnExactAndAnswerWrong)

/-- 'laws.FnExactOrAnswer': WHATEVER THE INPUT: true; the input reads as it did. -/
def fnExactOrAnswerSpec : ChangeSpec := { name := "fnExactOrAnswer", fn := fun _ => fun
  | [d1, d2] => { results := [.lit (.bool true)], args := [d1, d2] }
  | _ => none }
def fnExactOrAnswerRow : OpenClaim := { program := "ytnfkddaigfjigaa", sum := "74a2fb4687fb46e1452e365d6d64ee12099b33354e00a95832d0a052da02cbc0", func := "loop.example/g00880/laws.FnExactOrAnswer", spec := "fnExactOrAnswer", apart := false }
def FnExactOrAnswerSaid : Prop := fnExactOrAnswerRow.holds Try.pinned (OpenSpec.ofChange fnExactOrAnswerSpec)

/-- ITS FALSE NEIGHBOUR: 'it returns false'. Refute it at one input. -/
def fnExactOrAnswerWrong : ChangeSpec := { name := "fnExactOrAnswer", fn := fun _ => fun
  | [d1, d2] => { results := [.lit (.bool false)], args := [d1, d2] }
  | _ => none }
def FnExactOrAnswerWrongFalsely : Prop := fnExactOrAnswerRow.holds Try.pinned (OpenSpec.ofChange fnExactOrAnswerWrong)

/-- 'laws.FnExactNotAnswer': WHATEVER THE INPUT: true; the input reads as it did. -/
def fnExactNotAnswerSpec : ChangeSpec := { name := "fnExactNotAnswer", fn := fun _ => fun
  | [d] => { results := [.lit (.bool true)], args := [d] }
  | _ => none }
def fnExactNotAnswerRow : OpenClaim := { program := "ytnfkddaigfjigaa", sum := "74a2fb4687fb46e1452e365d6d64ee12099b33354e00a95832d0a052da02cbc0", func := "loop.example/g00880/laws.FnExactNotAnswer", spec := "fnExactNotAnswer", apart := false }
def FnExactNotAnswerSaid : Prop := fnExactNotAnswerRow.holds Try.pinned (OpenSpec.ofChange fnExactNotAnswerSpec)

/-- ITS FALSE NEIGHBOUR: 'it returns false'. Refute it at one input. -/
def fnExactNotAnswerWrong : ChangeSpec := { name := "fnExactNotAnswer", fn := fun _ => fun
  | [d] => { results := [.lit (.bool false)], args := [d] }
  | _ => none }
def FnExactNotAnswerWrongFalsely : Prop := fnExactNotAnswerRow.holds Try.pinned (OpenSpec.ofChange fnExactNotAnswerWrong)

/-- 'laws.FnExactIsName': WHATEVER THE INPUT: true; the input reads as it did. -/
def fnExactIsNameSpec : ChangeSpec := { name := "fnExactIsName", fn := fun _ => fun
  | [d] => { results := [.lit (.bool true)], args := [d] }
  | _ => none }
def fnExactIsNameRow : OpenClaim := { program := "ytnfkddaigfjigaa", sum := "74a2fb4687fb46e1452e365d6d64ee12099b33354e00a95832d0a052da02cbc0", func := "loop.example/g00880/laws.FnExactIsName", spec := "fnExactIsName", apart := false }
def FnExactIsNameSaid : Prop := fnExactIsNameRow.holds Try.pinned (OpenSpec.ofChange fnExactIsNameSpec)

/-- ITS FALSE NEIGHBOUR: 'it returns false'. Refute it at one input. -/
def fnExactIsNameWrong : ChangeSpec := { name := "fnExactIsName", fn := fun _ => fun
  | [d] => { results := [.lit (.bool false)], args := [d] }
  | _ => none }
def FnExactIsNameWrongFalsely : Prop := fnExactIsNameRow.holds Try.pinned (OpenSpec.ofChange fnExactIsNameWrong)

/-- 'laws.FnExactSplitWords': WHATEVER THE INPUT: true; the input reads as it did. -/
def fnExactSplitWordsSpec : ChangeSpec := { name := "fnExactSplitWords", fn := fun _ => fun
  | [d] => { results := [.lit (.bool true)], args := [d] }
  | _ => none }
def fnExactSplitWordsRow : OpenClaim := { program := "ytnfkddaigfjigaa", sum := "74a2fb4687fb46e1452e365d6d64ee12099b33354e00a95832d0a052da02cbc0", func := "loop.example/g00880/laws.FnExactSplitWords", spec := "fnExactSplitWords", unfollowed := true, recurses := true, apart := false }
def FnExactSplitWordsSaid : Prop := fnExactSplitWordsRow.holds Try.pinned (OpenSpec.ofChange fnExactSplitWordsSpec)

/-- ITS FALSE NEIGHBOUR: 'it returns false'. Refute it at one input. -/
def fnExactSplitWordsWrong : ChangeSpec := { name := "fnExactSplitWords", fn := fun _ => fun
  | [d] => { results := [.lit (.bool false)], args := [d] }
  | _ => none }
def FnExactSplitWordsWrongFalsely : Prop := fnExactSplitWordsRow.holds Try.pinned (OpenSpec.ofChange fnExactSplitWordsWrong)

/-- 'laws.FnExactWideOf': WHATEVER THE INPUT: true; the input reads as it did. -/
def fnExactWideOfSpec : ChangeSpec := { name := "fnExactWideOf", fn := fun _ => fun
  | [d] => { results := [.lit (.bool true)], args := [d] }
  | _ => none }
def fnExactWideOfRow : OpenClaim := { program := "ytnfkddaigfjigaa", sum := "74a2fb4687fb46e1452e365d6d64ee12099b33354e00a95832d0a052da02cbc0", func := "loop.example/g00880/laws.FnExactWideOf", spec := "fnExactWideOf", apart := false }
def FnExactWideOfSaid : Prop := fnExactWideOfRow.holds Try.pinned (OpenSpec.ofChange fnExactWideOfSpec)

/-- ITS FALSE NEIGHBOUR: 'it returns false'. Refute it at one input. -/
def fnExactWideOfWrong : ChangeSpec := { name := "fnExactWideOf", fn := fun _ => fun
  | [d] => { results := [.lit (.bool false)], args := [d] }
  | _ => none }
def FnExactWideOfWrongFalsely : Prop := fnExactWideOfRow.holds Try.pinned (OpenSpec.ofChange fnExactWideOfWrong)

/- THE SECOND FORM. 'bulk': how many values and letters a reading holds, each counted each time it is reached (what is shared counts as often as it is met; a slice's spare places count too). A statement '..UptoSaid' is the law's where the arguments, and the package variables that the reading takes, are together of bulk at most 1048576: NARROWER than '..Said'. Prove '..Said' where nothing that the law and all that it calls make is longer than what came in: it says more and counts as full. Else prove '..UptoSaid'. A law counts once. -/
mutual
def uptoBulk {H : Type} : DataW H → Nat
  | .lit (.string bytes) => bytes.length + 1
  | .lit _ => 1
  | .nil => 1
  | .ptr d => uptoBulk d + 1
  | .slice elems spare => uptoBulkAll elems + uptoBulkAll spare + 1
  | .agg parts => uptoBulkAll parts + 1
  | .iface _ d => uptoBulk d + 1
  | .map entries => uptoBulkEntries entries + 1
  | .held _ => 1
def uptoBulkAll {H : Type} : List (DataW H) → Nat
  | [] => 0
  | d :: r => uptoBulk d + uptoBulkAll r
def uptoBulkEntries {H : Type} : List (Lit × DataW H) → Nat
  | [] => 0
  | x :: r => uptoBulkEntry x + uptoBulkEntries r
def uptoBulkEntry {H : Type} : Lit × DataW H → Nat
  | (.string bytes, d) => bytes.length + uptoBulk d + 1
  | (_, d) => uptoBulk d + 1
 end
def uptoSmall : (H : Type) → List (DataW H) → Bool := fun _ ds => decide (uptoBulkAll ds ≤ 1048576)
def OpenSpec.upto (s : _root_.Go.ChangeSpec) : _root_.Go.OpenSpec := { _root_.Go.OpenSpec.ofChange s with cond := some uptoSmall }

/-- 'laws.FnWide', WHERE WHAT IT READS IS OF BULK AT MOST 1048576: true; the input reads as it did. -/
def fnWideUptoRow : OpenClaim := { program := "ytnfkddaigfjigaa", sum := "74a2fb4687fb46e1452e365d6d64ee12099b33354e00a95832d0a052da02cbc0", func := "loop.example/g00880/laws.FnWide", spec := "fnWide", inPlace := ["math/bits.Sub64", "math/bits.Add64"], unfollowed := true, recurses := true, named := ["math/bits.divideError", "math/bits.overflowError"], apart := false, narrowed := true }
def FnWideUptoSaid : Prop := fnWideUptoRow.holds Try.pinned (OpenSpec.upto fnWideSpec)

/-- 'laws.FnProducts', WHERE WHAT IT READS IS OF BULK AT MOST 1048576: true; the input reads as it did. -/
def fnProductsUptoRow : OpenClaim := { program := "ytnfkddaigfjigaa", sum := "74a2fb4687fb46e1452e365d6d64ee12099b33354e00a95832d0a052da02cbc0", func := "loop.example/g00880/laws.FnProducts", spec := "fnProducts", inPlace := ["math/bits.Sub64"], unfollowed := true, recurses := true, named := ["math/bits.divideError", "math/bits.overflowError"], apart := false, narrowed := true }
def FnProductsUptoSaid : Prop := fnProductsUptoRow.holds Try.pinned (OpenSpec.upto fnProductsSpec)

/-- 'laws.FnExactAndAnswer', WHERE WHAT IT READS IS OF BULK AT MOST 1048576: true; the input reads as it did. -/
def fnExactAndAnswerUptoRow : OpenClaim := { program := "ytnfkddaigfjigaa", sum := "74a2fb4687fb46e1452e365d6d64ee12099b33354e00a95832d0a052da02cbc0", func := "loop.example/g00880/laws.FnExactAndAnswer", spec := "fnExactAndAnswer", apart := false, narrowed := true }
def FnExactAndAnswerUptoSaid : Prop := fnExactAndAnswerUptoRow.holds Try.pinned (OpenSpec.upto fnExactAndAnswerSpec)

/-- 'laws.FnExactOrAnswer', WHERE WHAT IT READS IS OF BULK AT MOST 1048576: true; the input reads as it did. -/
def fnExactOrAnswerUptoRow : OpenClaim := { program := "ytnfkddaigfjigaa", sum := "74a2fb4687fb46e1452e365d6d64ee12099b33354e00a95832d0a052da02cbc0", func := "loop.example/g00880/laws.FnExactOrAnswer", spec := "fnExactOrAnswer", apart := false, narrowed := true }
def FnExactOrAnswerUptoSaid : Prop := fnExactOrAnswerUptoRow.holds Try.pinned (OpenSpec.upto fnExactOrAnswerSpec)

/-- 'laws.FnExactNotAnswer', WHERE WHAT IT READS IS OF BULK AT MOST 1048576: true; the input reads as it did. -/
def fnExactNotAnswerUptoRow : OpenClaim := { program := "ytnfkddaigfjigaa", sum := "74a2fb4687fb46e1452e365d6d64ee12099b33354e00a95832d0a052da02cbc0", func := "loop.example/g00880/laws.FnExactNotAnswer", spec := "fnExactNotAnswer", apart := false, narrowed := true }
def FnExactNotAnswerUptoSaid : Prop := fnExactNotAnswerUptoRow.holds Try.pinned (OpenSpec.upto fnExactNotAnswerSpec)

/-- 'laws.FnExactIsName', WHERE WHAT IT READS IS OF BULK AT MOST 1048576: true; the input reads as it did. -/
def fnExactIsNameUptoRow : OpenClaim := { program := "ytnfkddaigfjigaa", sum := "74a2fb4687fb46e1452e365d6d64ee12099b33354e00a95832d0a052da02cbc0", func := "loop.example/g00880/laws.FnExactIsName", spec := "fnExactIsName", apart := false, narrowed := true }
def FnExactIsNameUptoSaid : Prop := fnExactIsNameUptoRow.holds Try.pinned (OpenSpec.upto fnExactIsNameSpec)

/-- 'laws.FnExactSplitWords', WHERE WHAT IT READS IS OF BULK AT MOST 1048576: true; the input reads as it did. -/
def fnExactSplitWordsUptoRow : OpenClaim := { program := "ytnfkddaigfjigaa", sum := "74a2fb4687fb46e1452e365d6d64ee12099b33354e00a95832d0a052da02cbc0", func := "loop.example/g00880/laws.FnExactSplitWords", spec := "fnExactSplitWords", unfollowed := true, recurses := true, apart := false, narrowed := true }
def FnExactSplitWordsUptoSaid : Prop := fnExactSplitWordsUptoRow.holds Try.pinned (OpenSpec.upto fnExactSplitWordsSpec)

/-- 'laws.FnExactWideOf', WHERE WHAT IT READS IS OF BULK AT MOST 1048576: true; the input reads as it did. -/
def fnExactWideOfUptoRow : OpenClaim := { program := "ytnfkddaigfjigaa", sum := "74a2fb4687fb46e1452e365d6d64ee12099b33354e00a95832d0a052da02cbc0", func := "loop.example/g00880/laws.FnExactWideOf", spec := "fnExactWideOf", apart := false, narrowed := true }
def FnExactWideOfUptoSaid : Prop := fnExactWideOfUptoRow.holds Try.pinned (OpenSpec.upto fnExactWideOfSpec)

end Rows
end Go.Proofs.Ytnfkddaigfjigaa
