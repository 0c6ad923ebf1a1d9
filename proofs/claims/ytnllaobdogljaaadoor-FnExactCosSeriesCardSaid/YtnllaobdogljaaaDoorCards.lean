/-
  DERIVED. GIVEN WITH THE SEED: THE CARDS: each row of YtnllaobdogljaaaDoorRows.lean that lists a variable, with what it lists TIED to the program's text (the seventh form; the later family's looks); each row that meets fmt, with fmt's text TOLD by the authors' own Lean function (tested against real Go, not proved from fmt's source: count such statements apart). THE CARD IS WHAT COUNTS. Prove the row's statement (the work); the ties are given (YtnllaobdogljaaaDoorTie.lean); close each card by the builder's one call (the guide's Derived/Test/ToyasCard.lean, 'card_holds'). Laid BY PROGRAM, IN A SANDBOX (cutbox-door.mjs). By AI agents, Wed Nov 11 2026. No macro, syntax, notation, axiom, sorry.
-/
import Derived.Test.YtnllaobdogljaaaDoorRows
import GoSem.ClaimSeven
namespace Go.Proofs.YtnllaobdogljaaaDoor
namespace Rows

/-- THE TIED CARD OF 'laws.FnExactSinSeries'. -/
def fnExactSinSeriesCard : Claim7 := { stood := { row := fnExactSinSeriesRow, standIns := [], harness := (true, "08566f393468a7ac7deda5505f87225e1bcc5ac654718bc40eea839689250317"), looks := false }, kinds := [], alts := [], laidByText := true, laidKinds := [.data, .data], laidTests := true, laidLooks := .later }
def FnExactSinSeriesCardSaid : Prop := Claim7.holds Tryd.pinned (.plain (OpenSpec.ofChange fnExactSinSeriesSpec)) fnExactSinSeriesCard

/-- THE TIED CARD OF 'laws.FnExactCosSeries'. -/
def fnExactCosSeriesCard : Claim7 := { stood := { row := fnExactCosSeriesRow, standIns := [], harness := (true, "08566f393468a7ac7deda5505f87225e1bcc5ac654718bc40eea839689250317"), looks := false }, kinds := [], alts := [], laidByText := true, laidKinds := [.data, .data], laidTests := true, laidLooks := .later }
def FnExactCosSeriesCardSaid : Prop := Claim7.holds Tryd.pinned (.plain (OpenSpec.ofChange fnExactCosSeriesSpec)) fnExactCosSeriesCard

/-- THE SECOND FORM's CARD OF 'laws.FnExactSinSeries'. -/
def fnExactSinSeriesUptoCard : Claim7 := { stood := { row := fnExactSinSeriesUptoRow, standIns := [], harness := (true, "08566f393468a7ac7deda5505f87225e1bcc5ac654718bc40eea839689250317"), looks := false }, kinds := [], alts := [], laidByText := true, laidKinds := [.data, .data], laidTests := true, laidLooks := .later }
def FnExactSinSeriesUptoCardSaid : Prop := Claim7.holds Tryd.pinned (.plain (OpenSpec.upto fnExactSinSeriesSpec)) fnExactSinSeriesUptoCard

/-- THE SECOND FORM's CARD OF 'laws.FnExactCosSeries'. -/
def fnExactCosSeriesUptoCard : Claim7 := { stood := { row := fnExactCosSeriesUptoRow, standIns := [], harness := (true, "08566f393468a7ac7deda5505f87225e1bcc5ac654718bc40eea839689250317"), looks := false }, kinds := [], alts := [], laidByText := true, laidKinds := [.data, .data], laidTests := true, laidLooks := .later }
def FnExactCosSeriesUptoCardSaid : Prop := Claim7.holds Tryd.pinned (.plain (OpenSpec.upto fnExactCosSeriesSpec)) fnExactCosSeriesUptoCard
end Rows
end Go.Proofs.YtnllaobdogljaaaDoor
