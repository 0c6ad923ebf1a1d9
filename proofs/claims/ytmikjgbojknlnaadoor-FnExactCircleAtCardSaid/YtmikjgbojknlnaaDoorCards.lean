/-
  DERIVED. GIVEN WITH THE SEED: THE CARDS: each row of YtmikjgbojknlnaaDoorRows.lean that lists a variable, with what it lists TIED to the program's text (the seventh form; the later family's looks); each row that meets fmt, with fmt's text TOLD by the authors' own Lean function (tested against real Go, not proved from fmt's source: count such statements apart). THE CARD IS WHAT COUNTS. Prove the row's statement (the work); the ties are given (YtmikjgbojknlnaaDoorTie.lean); close each card by the builder's one call (the guide's Derived/Test/ToyasCard.lean, 'card_holds'). Laid BY PROGRAM, IN A SANDBOX (cutbox-door.mjs). By AI agents, Wed Nov 11 2026. No macro, syntax, notation, axiom, sorry.
-/
import Derived.Test.YtmikjgbojknlnaaDoorRows
import GoSem.ClaimSeven
namespace Go.Proofs.YtmikjgbojknlnaaDoor
namespace Rows

/-- THE TIED CARD OF 'laws.FnExactCircleAt'. -/
def fnExactCircleAtCard : Claim7 := { stood := { row := fnExactCircleAtRow, standIns := [], harness := (true, "1c0096d82c372f8c47f35ffa51f24446cd40360f5ac3eda7a0155b219b15b0c1"), looks := false }, kinds := [], alts := [], laidByText := true, laidKinds := [.data], laidTests := true, laidLooks := .later }
def FnExactCircleAtCardSaid : Prop := Claim7.holds Tryd.pinned (.plain (OpenSpec.ofChange fnExactCircleAtSpec)) fnExactCircleAtCard

/-- THE SECOND FORM's CARD OF 'laws.FnExactCircleAt'. -/
def fnExactCircleAtUptoCard : Claim7 := { stood := { row := fnExactCircleAtUptoRow, standIns := [], harness := (true, "1c0096d82c372f8c47f35ffa51f24446cd40360f5ac3eda7a0155b219b15b0c1"), looks := false }, kinds := [], alts := [], laidByText := true, laidKinds := [.data], laidTests := true, laidLooks := .later }
def FnExactCircleAtUptoCardSaid : Prop := Claim7.holds Tryd.pinned (.plain (OpenSpec.upto fnExactCircleAtSpec)) fnExactCircleAtUptoCard
end Rows
end Go.Proofs.YtmikjgbojknlnaaDoor
