/-
  DERIVED. GIVEN WITH THE SEED: THE CARDS: each row of YtnnanbaldcjfiaaDoorRows.lean that lists a variable, with what it lists TIED to the program's text (the seventh form; the later family's looks); each row that meets fmt, with fmt's text TOLD by the authors' own Lean function (tested against real Go, not proved from fmt's source: count such statements apart). THE CARD IS WHAT COUNTS. Prove the row's statement (the work); the ties are given (YtnnanbaldcjfiaaDoorTie.lean); close each card by the builder's one call (the guide's Derived/Test/ToyasCard.lean, 'card_holds'). Laid BY PROGRAM, IN A SANDBOX (cutbox-door.mjs). By AI agents, Wed Nov 11 2026. No macro, syntax, notation, axiom, sorry.
-/
import Derived.Test.YtnnanbaldcjfiaaDoorRows
import GoSem.ClaimSeven
namespace Go.Proofs.YtnnanbaldcjfiaaDoor
namespace Rows

/-- THE TIED CARD OF 'laws.FnExactExpAt'. -/
def fnExactExpAtCard : Claim7 := { stood := { row := fnExactExpAtRow, standIns := [], harness := (true, "eab75a4d934b72364e3600b10fe036613b9110b934b75b915880df3557fc28c4"), looks := false }, kinds := [], alts := [], laidByText := true, laidKinds := [.data], laidTests := true, laidLooks := .later }
def FnExactExpAtCardSaid : Prop := Claim7.holds Tryd.pinned (.plain (OpenSpec.ofChange fnExactExpAtSpec)) fnExactExpAtCard

/-- THE SECOND FORM's CARD OF 'laws.FnExactExpAt'. -/
def fnExactExpAtUptoCard : Claim7 := { stood := { row := fnExactExpAtUptoRow, standIns := [], harness := (true, "eab75a4d934b72364e3600b10fe036613b9110b934b75b915880df3557fc28c4"), looks := false }, kinds := [], alts := [], laidByText := true, laidKinds := [.data], laidTests := true, laidLooks := .later }
def FnExactExpAtUptoCardSaid : Prop := Claim7.holds Tryd.pinned (.plain (OpenSpec.upto fnExactExpAtSpec)) fnExactExpAtUptoCard
end Rows
end Go.Proofs.YtnnanbaldcjfiaaDoor
