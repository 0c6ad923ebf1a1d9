/-
  DERIVED. GIVEN WITH THE SEED: THE CARDS: each row of YtpjhoelfhmbpdaaDoorRows.lean that lists a variable, with what it lists TIED to the program's text (the seventh form; the later family's looks); each row that meets fmt, with fmt's text TOLD by the authors' own Lean function (tested against real Go, not proved from fmt's source: count such statements apart). THE CARD IS WHAT COUNTS. Prove the row's statement (the work); the ties are given (YtpjhoelfhmbpdaaDoorTie.lean); close each card by the builder's one call (the guide's Derived/Test/ToyasCard.lean, 'card_holds'). Laid BY PROGRAM, IN A SANDBOX (cutbox-door.mjs). By AI agents, Wed Nov 11 2026. No macro, syntax, notation, axiom, sorry.
-/
import Derived.Test.YtpjhoelfhmbpdaaDoorRows
import GoSem.ClaimSeven
namespace Go.Proofs.YtpjhoelfhmbpdaaDoor
namespace Rows

/-- THE TIED CARD OF 'laws.FnExactSinSeries'. -/
def fnExactSinSeriesCard : Claim7 := { stood := { row := fnExactSinSeriesRow, standIns := [], harness := (true, "dde8b744d7e4be80dd7dc1657d26d6c1894e94af8e8f9c840bb3f6f93dfce79d"), looks := false }, kinds := [], alts := [], laidByText := true, laidKinds := [.data, .data], laidTests := true, laidLooks := .later }
def FnExactSinSeriesCardSaid : Prop := Claim7.holds Tryd.pinned (.plain (OpenSpec.ofChange fnExactSinSeriesSpec)) fnExactSinSeriesCard

/-- THE TIED CARD OF 'laws.FnExactCosSeries'. -/
def fnExactCosSeriesCard : Claim7 := { stood := { row := fnExactCosSeriesRow, standIns := [], harness := (true, "dde8b744d7e4be80dd7dc1657d26d6c1894e94af8e8f9c840bb3f6f93dfce79d"), looks := false }, kinds := [], alts := [], laidByText := true, laidKinds := [.data, .data], laidTests := true, laidLooks := .later }
def FnExactCosSeriesCardSaid : Prop := Claim7.holds Tryd.pinned (.plain (OpenSpec.ofChange fnExactCosSeriesSpec)) fnExactCosSeriesCard

/-- THE TIED CARD OF 'laws.FnExactArcSeries'. -/
def fnExactArcSeriesCard : Claim7 := { stood := { row := fnExactArcSeriesRow, standIns := [], harness := (true, "dde8b744d7e4be80dd7dc1657d26d6c1894e94af8e8f9c840bb3f6f93dfce79d"), looks := false }, kinds := [], alts := [], laidByText := true, laidKinds := [.data], laidTests := true, laidLooks := .later }
def FnExactArcSeriesCardSaid : Prop := Claim7.holds Tryd.pinned (.plain (OpenSpec.ofChange fnExactArcSeriesSpec)) fnExactArcSeriesCard

/-- THE TIED CARD OF 'laws.FnExactCircleAt'. -/
def fnExactCircleAtCard : Claim7 := { stood := { row := fnExactCircleAtRow, standIns := [], harness := (true, "dde8b744d7e4be80dd7dc1657d26d6c1894e94af8e8f9c840bb3f6f93dfce79d"), looks := false }, kinds := [], alts := [], laidByText := true, laidKinds := [.data], laidTests := true, laidLooks := .later }
def FnExactCircleAtCardSaid : Prop := Claim7.holds Tryd.pinned (.plain (OpenSpec.ofChange fnExactCircleAtSpec)) fnExactCircleAtCard

/-- THE SECOND FORM's CARD OF 'laws.FnExactSinSeries'. -/
def fnExactSinSeriesUptoCard : Claim7 := { stood := { row := fnExactSinSeriesUptoRow, standIns := [], harness := (true, "dde8b744d7e4be80dd7dc1657d26d6c1894e94af8e8f9c840bb3f6f93dfce79d"), looks := false }, kinds := [], alts := [], laidByText := true, laidKinds := [.data, .data], laidTests := true, laidLooks := .later }
def FnExactSinSeriesUptoCardSaid : Prop := Claim7.holds Tryd.pinned (.plain (OpenSpec.upto fnExactSinSeriesSpec)) fnExactSinSeriesUptoCard

/-- THE SECOND FORM's CARD OF 'laws.FnExactCosSeries'. -/
def fnExactCosSeriesUptoCard : Claim7 := { stood := { row := fnExactCosSeriesUptoRow, standIns := [], harness := (true, "dde8b744d7e4be80dd7dc1657d26d6c1894e94af8e8f9c840bb3f6f93dfce79d"), looks := false }, kinds := [], alts := [], laidByText := true, laidKinds := [.data, .data], laidTests := true, laidLooks := .later }
def FnExactCosSeriesUptoCardSaid : Prop := Claim7.holds Tryd.pinned (.plain (OpenSpec.upto fnExactCosSeriesSpec)) fnExactCosSeriesUptoCard

/-- THE SECOND FORM's CARD OF 'laws.FnExactArcSeries'. -/
def fnExactArcSeriesUptoCard : Claim7 := { stood := { row := fnExactArcSeriesUptoRow, standIns := [], harness := (true, "dde8b744d7e4be80dd7dc1657d26d6c1894e94af8e8f9c840bb3f6f93dfce79d"), looks := false }, kinds := [], alts := [], laidByText := true, laidKinds := [.data], laidTests := true, laidLooks := .later }
def FnExactArcSeriesUptoCardSaid : Prop := Claim7.holds Tryd.pinned (.plain (OpenSpec.upto fnExactArcSeriesSpec)) fnExactArcSeriesUptoCard

/-- THE SECOND FORM's CARD OF 'laws.FnExactCircleAt'. -/
def fnExactCircleAtUptoCard : Claim7 := { stood := { row := fnExactCircleAtUptoRow, standIns := [], harness := (true, "dde8b744d7e4be80dd7dc1657d26d6c1894e94af8e8f9c840bb3f6f93dfce79d"), looks := false }, kinds := [], alts := [], laidByText := true, laidKinds := [.data], laidTests := true, laidLooks := .later }
def FnExactCircleAtUptoCardSaid : Prop := Claim7.holds Tryd.pinned (.plain (OpenSpec.upto fnExactCircleAtSpec)) fnExactCircleAtUptoCard
end Rows
end Go.Proofs.YtpjhoelfhmbpdaaDoor
