/-
  DERIVED. GIVEN WITH THE SEED: THE CARDS: each row of YtnllaobdogljaaaGreatDoorRows.lean that lists a variable, with what it lists TIED to the program's text (the seventh form; the later family's looks); each row that meets fmt, with fmt's text TOLD by the authors' own Lean function (tested against real Go, not proved from fmt's source: count such statements apart). THE CARD IS WHAT COUNTS. Prove the row's statement (the work); the ties are given (YtnllaobdogljaaaGreatDoorTie.lean); close each card by the builder's one call (the guide's Derived/Test/ToyasCard.lean, 'card_holds'). Laid BY PROGRAM, IN A SANDBOX (cutbox-door.mjs). By AI agents, Wed Nov 11 2026. No macro, syntax, notation, axiom, sorry.
-/
import Derived.Test.YtnllaobdogljaaaGreatDoorRows
import GoSem.ClaimSeven
namespace Go.Proofs.YtnllaobdogljaaaGreatDoor
namespace Rows

/-- THE TIED CARD OF 'laws.FnTrig'. -/
def fnTrigCard : Claim7 := { stood := { row := fnTrigRow, standIns := [], harness := (true, "aee8da2472bcecd81ef127c6c98e8cff17205eee4df6a059680d2cfbefc36d48"), looks := false }, kinds := [], alts := [], laidByText := true, laidKinds := [.data, .data], laidTests := true, laidLooks := .later }
def FnTrigCardSaid : Prop := Claim7.holds Tryz.pinned (.plain (OpenSpec.ofChange fnTrigSpec)) fnTrigCard

/-- THE TIED CARD OF 'laws.FnExactSinAt'. -/
def fnExactSinAtCard : Claim7 := { stood := { row := fnExactSinAtRow, standIns := [], harness := (true, "aee8da2472bcecd81ef127c6c98e8cff17205eee4df6a059680d2cfbefc36d48"), looks := false }, kinds := [], alts := [], laidByText := true, laidKinds := [.data, .data], laidTests := true, laidLooks := .later }
def FnExactSinAtCardSaid : Prop := Claim7.holds Tryz.pinned (.plain (OpenSpec.ofChange fnExactSinAtSpec)) fnExactSinAtCard

/-- THE TIED CARD OF 'laws.FnExactCosAt'. -/
def fnExactCosAtCard : Claim7 := { stood := { row := fnExactCosAtRow, standIns := [], harness := (true, "aee8da2472bcecd81ef127c6c98e8cff17205eee4df6a059680d2cfbefc36d48"), looks := false }, kinds := [], alts := [], laidByText := true, laidKinds := [.data, .data], laidTests := true, laidLooks := .later }
def FnExactCosAtCardSaid : Prop := Claim7.holds Tryz.pinned (.plain (OpenSpec.ofChange fnExactCosAtSpec)) fnExactCosAtCard

/-- THE TIED CARD OF 'laws.FnExactSinI'. -/
def fnExactSinICard : Claim7 := { stood := { row := fnExactSinIRow, standIns := [], harness := (true, "aee8da2472bcecd81ef127c6c98e8cff17205eee4df6a059680d2cfbefc36d48"), looks := false }, kinds := [], alts := [], laidByText := true, laidKinds := [.data, .data], laidTests := true, laidLooks := .later }
def FnExactSinICardSaid : Prop := Claim7.holds Tryz.pinned (.plain (OpenSpec.ofChange fnExactSinISpec)) fnExactSinICard

/-- THE TIED CARD OF 'laws.FnExactCosI'. -/
def fnExactCosICard : Claim7 := { stood := { row := fnExactCosIRow, standIns := [], harness := (true, "aee8da2472bcecd81ef127c6c98e8cff17205eee4df6a059680d2cfbefc36d48"), looks := false }, kinds := [], alts := [], laidByText := true, laidKinds := [.data, .data], laidTests := true, laidLooks := .later }
def FnExactCosICardSaid : Prop := Claim7.holds Tryz.pinned (.plain (OpenSpec.ofChange fnExactCosISpec)) fnExactCosICard

/-- THE TIED CARD OF 'laws.FnExactTanI'. -/
def fnExactTanICard : Claim7 := { stood := { row := fnExactTanIRow, standIns := [], harness := (true, "aee8da2472bcecd81ef127c6c98e8cff17205eee4df6a059680d2cfbefc36d48"), looks := false }, kinds := [], alts := [], laidByText := true, laidKinds := [.data, .data], laidTests := true, laidLooks := .later }
def FnExactTanICardSaid : Prop := Claim7.holds Tryz.pinned (.plain (OpenSpec.ofChange fnExactTanISpec)) fnExactTanICard

/-- THE SECOND FORM's CARD OF 'laws.FnTrig'. -/
def fnTrigUptoCard : Claim7 := { stood := { row := fnTrigUptoRow, standIns := [], harness := (true, "aee8da2472bcecd81ef127c6c98e8cff17205eee4df6a059680d2cfbefc36d48"), looks := false }, kinds := [], alts := [], laidByText := true, laidKinds := [.data, .data], laidTests := true, laidLooks := .later }
def FnTrigUptoCardSaid : Prop := Claim7.holds Tryz.pinned (.plain (OpenSpec.upto fnTrigSpec)) fnTrigUptoCard

/-- THE SECOND FORM's CARD OF 'laws.FnExactSinAt'. -/
def fnExactSinAtUptoCard : Claim7 := { stood := { row := fnExactSinAtUptoRow, standIns := [], harness := (true, "aee8da2472bcecd81ef127c6c98e8cff17205eee4df6a059680d2cfbefc36d48"), looks := false }, kinds := [], alts := [], laidByText := true, laidKinds := [.data, .data], laidTests := true, laidLooks := .later }
def FnExactSinAtUptoCardSaid : Prop := Claim7.holds Tryz.pinned (.plain (OpenSpec.upto fnExactSinAtSpec)) fnExactSinAtUptoCard

/-- THE SECOND FORM's CARD OF 'laws.FnExactCosAt'. -/
def fnExactCosAtUptoCard : Claim7 := { stood := { row := fnExactCosAtUptoRow, standIns := [], harness := (true, "aee8da2472bcecd81ef127c6c98e8cff17205eee4df6a059680d2cfbefc36d48"), looks := false }, kinds := [], alts := [], laidByText := true, laidKinds := [.data, .data], laidTests := true, laidLooks := .later }
def FnExactCosAtUptoCardSaid : Prop := Claim7.holds Tryz.pinned (.plain (OpenSpec.upto fnExactCosAtSpec)) fnExactCosAtUptoCard

/-- THE SECOND FORM's CARD OF 'laws.FnExactSinI'. -/
def fnExactSinIUptoCard : Claim7 := { stood := { row := fnExactSinIUptoRow, standIns := [], harness := (true, "aee8da2472bcecd81ef127c6c98e8cff17205eee4df6a059680d2cfbefc36d48"), looks := false }, kinds := [], alts := [], laidByText := true, laidKinds := [.data, .data], laidTests := true, laidLooks := .later }
def FnExactSinIUptoCardSaid : Prop := Claim7.holds Tryz.pinned (.plain (OpenSpec.upto fnExactSinISpec)) fnExactSinIUptoCard

/-- THE SECOND FORM's CARD OF 'laws.FnExactCosI'. -/
def fnExactCosIUptoCard : Claim7 := { stood := { row := fnExactCosIUptoRow, standIns := [], harness := (true, "aee8da2472bcecd81ef127c6c98e8cff17205eee4df6a059680d2cfbefc36d48"), looks := false }, kinds := [], alts := [], laidByText := true, laidKinds := [.data, .data], laidTests := true, laidLooks := .later }
def FnExactCosIUptoCardSaid : Prop := Claim7.holds Tryz.pinned (.plain (OpenSpec.upto fnExactCosISpec)) fnExactCosIUptoCard

/-- THE SECOND FORM's CARD OF 'laws.FnExactTanI'. -/
def fnExactTanIUptoCard : Claim7 := { stood := { row := fnExactTanIUptoRow, standIns := [], harness := (true, "aee8da2472bcecd81ef127c6c98e8cff17205eee4df6a059680d2cfbefc36d48"), looks := false }, kinds := [], alts := [], laidByText := true, laidKinds := [.data, .data], laidTests := true, laidLooks := .later }
def FnExactTanIUptoCardSaid : Prop := Claim7.holds Tryz.pinned (.plain (OpenSpec.upto fnExactTanISpec)) fnExactTanIUptoCard
end Rows
end Go.Proofs.YtnllaobdogljaaaGreatDoor
