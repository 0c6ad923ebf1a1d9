/-
  DERIVED. GIVEN WITH THE SEED: THE CARDS: each row of YtnhpacaidcjaoaaGreatDoorRows.lean that lists a variable, with what it lists TIED to the program's text (the seventh form; the later family's looks); each row that meets fmt, with fmt's text TOLD by the authors' own Lean function (tested against real Go, not proved from fmt's source: count such statements apart). THE CARD IS WHAT COUNTS. Prove the row's statement (the work); the ties are given (YtnhpacaidcjaoaaGreatDoorTie.lean); close each card by the builder's one call (the guide's Derived/Test/ToyasCard.lean, 'card_holds'). Laid BY PROGRAM, IN A SANDBOX (cutbox-door.mjs). By AI agents, Wed Nov 11 2026. No macro, syntax, notation, axiom, sorry.
-/
import Derived.Test.YtnhpacaidcjaoaaGreatDoorRows
import GoSem.ClaimSeven
namespace Go.Proofs.YtnhpacaidcjaoaaGreatDoor
namespace Rows

/-- THE TIED CARD OF 'laws.FnExactAtanAt'. -/
def fnExactAtanAtCard : Claim7 := { stood := { row := fnExactAtanAtRow, standIns := [], harness := (true, "9c5b4cf8f8442f5f01554c4079c10e2ee4f6e93277bf28292f31ceebdd93dce8"), looks := false }, kinds := [], alts := [], laidByText := true, laidKinds := [.data], laidTests := true, laidLooks := .later }
def FnExactAtanAtCardSaid : Prop := Claim7.holds Tryz.pinned (.plain (OpenSpec.ofChange fnExactAtanAtSpec)) fnExactAtanAtCard

/-- THE TIED CARD OF 'laws.FnExactAtanI'. -/
def fnExactAtanICard : Claim7 := { stood := { row := fnExactAtanIRow, standIns := [], harness := (true, "9c5b4cf8f8442f5f01554c4079c10e2ee4f6e93277bf28292f31ceebdd93dce8"), looks := false }, kinds := [], alts := [], laidByText := true, laidKinds := [.data], laidTests := true, laidLooks := .later }
def FnExactAtanICardSaid : Prop := Claim7.holds Tryz.pinned (.plain (OpenSpec.ofChange fnExactAtanISpec)) fnExactAtanICard

/-- THE TIED CARD OF 'laws.FnExactAsinAt'. -/
def fnExactAsinAtCard : Claim7 := { stood := { row := fnExactAsinAtRow, standIns := [], harness := (true, "9c5b4cf8f8442f5f01554c4079c10e2ee4f6e93277bf28292f31ceebdd93dce8"), looks := false }, kinds := [], alts := [], laidByText := true, laidKinds := [.data, .data], laidTests := true, laidLooks := .later }
def FnExactAsinAtCardSaid : Prop := Claim7.holds Tryz.pinned (.plain (OpenSpec.ofChange fnExactAsinAtSpec)) fnExactAsinAtCard

/-- THE TIED CARD OF 'laws.FnExactAsinI'. -/
def fnExactAsinICard : Claim7 := { stood := { row := fnExactAsinIRow, standIns := [], harness := (true, "9c5b4cf8f8442f5f01554c4079c10e2ee4f6e93277bf28292f31ceebdd93dce8"), looks := false }, kinds := [], alts := [], laidByText := true, laidKinds := [.data, .data], laidTests := true, laidLooks := .later }
def FnExactAsinICardSaid : Prop := Claim7.holds Tryz.pinned (.plain (OpenSpec.ofChange fnExactAsinISpec)) fnExactAsinICard

/-- THE TIED CARD OF 'laws.FnExactAcosI'. -/
def fnExactAcosICard : Claim7 := { stood := { row := fnExactAcosIRow, standIns := [], harness := (true, "9c5b4cf8f8442f5f01554c4079c10e2ee4f6e93277bf28292f31ceebdd93dce8"), looks := false }, kinds := [], alts := [], laidByText := true, laidKinds := [.data, .data], laidTests := true, laidLooks := .later }
def FnExactAcosICardSaid : Prop := Claim7.holds Tryz.pinned (.plain (OpenSpec.ofChange fnExactAcosISpec)) fnExactAcosICard

/-- THE TIED CARD OF 'laws.FnExactDirectionAt'. -/
def fnExactDirectionAtCard : Claim7 := { stood := { row := fnExactDirectionAtRow, standIns := [], harness := (true, "9c5b4cf8f8442f5f01554c4079c10e2ee4f6e93277bf28292f31ceebdd93dce8"), looks := false }, kinds := [], alts := [], laidByText := true, laidKinds := [.data], laidTests := true, laidLooks := .later }
def FnExactDirectionAtCardSaid : Prop := Claim7.holds Tryz.pinned (.plain (OpenSpec.ofChange fnExactDirectionAtSpec)) fnExactDirectionAtCard

/-- THE TIED CARD OF 'laws.FnExactSinI'. -/
def fnExactSinICard : Claim7 := { stood := { row := fnExactSinIRow, standIns := [], harness := (true, "9c5b4cf8f8442f5f01554c4079c10e2ee4f6e93277bf28292f31ceebdd93dce8"), looks := false }, kinds := [], alts := [], laidByText := true, laidKinds := [.data, .data], laidTests := true, laidLooks := .later }
def FnExactSinICardSaid : Prop := Claim7.holds Tryz.pinned (.plain (OpenSpec.ofChange fnExactSinISpec)) fnExactSinICard

/-- THE TIED CARD OF 'laws.FnExactCosI'. -/
def fnExactCosICard : Claim7 := { stood := { row := fnExactCosIRow, standIns := [], harness := (true, "9c5b4cf8f8442f5f01554c4079c10e2ee4f6e93277bf28292f31ceebdd93dce8"), looks := false }, kinds := [], alts := [], laidByText := true, laidKinds := [.data, .data], laidTests := true, laidLooks := .later }
def FnExactCosICardSaid : Prop := Claim7.holds Tryz.pinned (.plain (OpenSpec.ofChange fnExactCosISpec)) fnExactCosICard

/-- THE TIED CARD OF 'laws.FnExactTanI'. -/
def fnExactTanICard : Claim7 := { stood := { row := fnExactTanIRow, standIns := [], harness := (true, "9c5b4cf8f8442f5f01554c4079c10e2ee4f6e93277bf28292f31ceebdd93dce8"), looks := false }, kinds := [], alts := [], laidByText := true, laidKinds := [.data, .data], laidTests := true, laidLooks := .later }
def FnExactTanICardSaid : Prop := Claim7.holds Tryz.pinned (.plain (OpenSpec.ofChange fnExactTanISpec)) fnExactTanICard

/-- THE TIED CARD OF 'laws.FnExactSinAt'. -/
def fnExactSinAtCard : Claim7 := { stood := { row := fnExactSinAtRow, standIns := [], harness := (true, "9c5b4cf8f8442f5f01554c4079c10e2ee4f6e93277bf28292f31ceebdd93dce8"), looks := false }, kinds := [], alts := [], laidByText := true, laidKinds := [.data, .data], laidTests := true, laidLooks := .later }
def FnExactSinAtCardSaid : Prop := Claim7.holds Tryz.pinned (.plain (OpenSpec.ofChange fnExactSinAtSpec)) fnExactSinAtCard

/-- THE TIED CARD OF 'laws.FnExactCosAt'. -/
def fnExactCosAtCard : Claim7 := { stood := { row := fnExactCosAtRow, standIns := [], harness := (true, "9c5b4cf8f8442f5f01554c4079c10e2ee4f6e93277bf28292f31ceebdd93dce8"), looks := false }, kinds := [], alts := [], laidByText := true, laidKinds := [.data, .data], laidTests := true, laidLooks := .later }
def FnExactCosAtCardSaid : Prop := Claim7.holds Tryz.pinned (.plain (OpenSpec.ofChange fnExactCosAtSpec)) fnExactCosAtCard

/-- THE SECOND FORM's CARD OF 'laws.FnExactAtanAt'. -/
def fnExactAtanAtUptoCard : Claim7 := { stood := { row := fnExactAtanAtUptoRow, standIns := [], harness := (true, "9c5b4cf8f8442f5f01554c4079c10e2ee4f6e93277bf28292f31ceebdd93dce8"), looks := false }, kinds := [], alts := [], laidByText := true, laidKinds := [.data], laidTests := true, laidLooks := .later }
def FnExactAtanAtUptoCardSaid : Prop := Claim7.holds Tryz.pinned (.plain (OpenSpec.upto fnExactAtanAtSpec)) fnExactAtanAtUptoCard

/-- THE SECOND FORM's CARD OF 'laws.FnExactAtanI'. -/
def fnExactAtanIUptoCard : Claim7 := { stood := { row := fnExactAtanIUptoRow, standIns := [], harness := (true, "9c5b4cf8f8442f5f01554c4079c10e2ee4f6e93277bf28292f31ceebdd93dce8"), looks := false }, kinds := [], alts := [], laidByText := true, laidKinds := [.data], laidTests := true, laidLooks := .later }
def FnExactAtanIUptoCardSaid : Prop := Claim7.holds Tryz.pinned (.plain (OpenSpec.upto fnExactAtanISpec)) fnExactAtanIUptoCard

/-- THE SECOND FORM's CARD OF 'laws.FnExactAsinAt'. -/
def fnExactAsinAtUptoCard : Claim7 := { stood := { row := fnExactAsinAtUptoRow, standIns := [], harness := (true, "9c5b4cf8f8442f5f01554c4079c10e2ee4f6e93277bf28292f31ceebdd93dce8"), looks := false }, kinds := [], alts := [], laidByText := true, laidKinds := [.data, .data], laidTests := true, laidLooks := .later }
def FnExactAsinAtUptoCardSaid : Prop := Claim7.holds Tryz.pinned (.plain (OpenSpec.upto fnExactAsinAtSpec)) fnExactAsinAtUptoCard

/-- THE SECOND FORM's CARD OF 'laws.FnExactAsinI'. -/
def fnExactAsinIUptoCard : Claim7 := { stood := { row := fnExactAsinIUptoRow, standIns := [], harness := (true, "9c5b4cf8f8442f5f01554c4079c10e2ee4f6e93277bf28292f31ceebdd93dce8"), looks := false }, kinds := [], alts := [], laidByText := true, laidKinds := [.data, .data], laidTests := true, laidLooks := .later }
def FnExactAsinIUptoCardSaid : Prop := Claim7.holds Tryz.pinned (.plain (OpenSpec.upto fnExactAsinISpec)) fnExactAsinIUptoCard

/-- THE SECOND FORM's CARD OF 'laws.FnExactAcosI'. -/
def fnExactAcosIUptoCard : Claim7 := { stood := { row := fnExactAcosIUptoRow, standIns := [], harness := (true, "9c5b4cf8f8442f5f01554c4079c10e2ee4f6e93277bf28292f31ceebdd93dce8"), looks := false }, kinds := [], alts := [], laidByText := true, laidKinds := [.data, .data], laidTests := true, laidLooks := .later }
def FnExactAcosIUptoCardSaid : Prop := Claim7.holds Tryz.pinned (.plain (OpenSpec.upto fnExactAcosISpec)) fnExactAcosIUptoCard

/-- THE SECOND FORM's CARD OF 'laws.FnExactDirectionAt'. -/
def fnExactDirectionAtUptoCard : Claim7 := { stood := { row := fnExactDirectionAtUptoRow, standIns := [], harness := (true, "9c5b4cf8f8442f5f01554c4079c10e2ee4f6e93277bf28292f31ceebdd93dce8"), looks := false }, kinds := [], alts := [], laidByText := true, laidKinds := [.data], laidTests := true, laidLooks := .later }
def FnExactDirectionAtUptoCardSaid : Prop := Claim7.holds Tryz.pinned (.plain (OpenSpec.upto fnExactDirectionAtSpec)) fnExactDirectionAtUptoCard

/-- THE SECOND FORM's CARD OF 'laws.FnExactSinI'. -/
def fnExactSinIUptoCard : Claim7 := { stood := { row := fnExactSinIUptoRow, standIns := [], harness := (true, "9c5b4cf8f8442f5f01554c4079c10e2ee4f6e93277bf28292f31ceebdd93dce8"), looks := false }, kinds := [], alts := [], laidByText := true, laidKinds := [.data, .data], laidTests := true, laidLooks := .later }
def FnExactSinIUptoCardSaid : Prop := Claim7.holds Tryz.pinned (.plain (OpenSpec.upto fnExactSinISpec)) fnExactSinIUptoCard

/-- THE SECOND FORM's CARD OF 'laws.FnExactCosI'. -/
def fnExactCosIUptoCard : Claim7 := { stood := { row := fnExactCosIUptoRow, standIns := [], harness := (true, "9c5b4cf8f8442f5f01554c4079c10e2ee4f6e93277bf28292f31ceebdd93dce8"), looks := false }, kinds := [], alts := [], laidByText := true, laidKinds := [.data, .data], laidTests := true, laidLooks := .later }
def FnExactCosIUptoCardSaid : Prop := Claim7.holds Tryz.pinned (.plain (OpenSpec.upto fnExactCosISpec)) fnExactCosIUptoCard

/-- THE SECOND FORM's CARD OF 'laws.FnExactTanI'. -/
def fnExactTanIUptoCard : Claim7 := { stood := { row := fnExactTanIUptoRow, standIns := [], harness := (true, "9c5b4cf8f8442f5f01554c4079c10e2ee4f6e93277bf28292f31ceebdd93dce8"), looks := false }, kinds := [], alts := [], laidByText := true, laidKinds := [.data, .data], laidTests := true, laidLooks := .later }
def FnExactTanIUptoCardSaid : Prop := Claim7.holds Tryz.pinned (.plain (OpenSpec.upto fnExactTanISpec)) fnExactTanIUptoCard

/-- THE SECOND FORM's CARD OF 'laws.FnExactSinAt'. -/
def fnExactSinAtUptoCard : Claim7 := { stood := { row := fnExactSinAtUptoRow, standIns := [], harness := (true, "9c5b4cf8f8442f5f01554c4079c10e2ee4f6e93277bf28292f31ceebdd93dce8"), looks := false }, kinds := [], alts := [], laidByText := true, laidKinds := [.data, .data], laidTests := true, laidLooks := .later }
def FnExactSinAtUptoCardSaid : Prop := Claim7.holds Tryz.pinned (.plain (OpenSpec.upto fnExactSinAtSpec)) fnExactSinAtUptoCard

/-- THE SECOND FORM's CARD OF 'laws.FnExactCosAt'. -/
def fnExactCosAtUptoCard : Claim7 := { stood := { row := fnExactCosAtUptoRow, standIns := [], harness := (true, "9c5b4cf8f8442f5f01554c4079c10e2ee4f6e93277bf28292f31ceebdd93dce8"), looks := false }, kinds := [], alts := [], laidByText := true, laidKinds := [.data, .data], laidTests := true, laidLooks := .later }
def FnExactCosAtUptoCardSaid : Prop := Claim7.holds Tryz.pinned (.plain (OpenSpec.upto fnExactCosAtSpec)) fnExactCosAtUptoCard
end Rows
end Go.Proofs.YtnhpacaidcjaoaaGreatDoor
