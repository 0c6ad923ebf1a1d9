/-
  DERIVED. GIVEN WITH THE SEED: THE CARDS: each row of YtmikjgbojknlnaaGreatDoorRows.lean that lists a variable, with what it lists TIED to the program's text (the seventh form; the later family's looks); each row that meets fmt, with fmt's text TOLD by the authors' own Lean function (tested against real Go, not proved from fmt's source: count such statements apart). THE CARD IS WHAT COUNTS. Prove the row's statement (the work); the ties are given (YtmikjgbojknlnaaGreatDoorTie.lean); close each card by the builder's one call (the guide's Derived/Test/ToyasCard.lean, 'card_holds'). Laid BY PROGRAM, IN A SANDBOX (cutbox-door.mjs). By AI agents, Wed Nov 11 2026. No macro, syntax, notation, axiom, sorry.
-/
import Derived.Test.YtmikjgbojknlnaaGreatDoorRows
import GoSem.ClaimSeven
namespace Go.Proofs.YtmikjgbojknlnaaGreatDoor
namespace Rows

/-- THE TIED CARD OF 'laws.FnExactTurnX'. -/
def fnExactTurnXCard : Claim7 := { stood := { row := fnExactTurnXRow, standIns := [], harness := (true, "c8ac24db77a15ccc35ee3a86cc0e1e9418b69f2f6ab302ae6e5d8c5b917c4853"), looks := false }, kinds := [], alts := [], laidByText := true, laidKinds := [.data, .data], laidTests := true, laidLooks := .later }
def FnExactTurnXCardSaid : Prop := Claim7.holds Tryz.pinned (.plain (OpenSpec.ofChange fnExactTurnXSpec)) fnExactTurnXCard

/-- THE TIED CARD OF 'laws.FnExactTurnY'. -/
def fnExactTurnYCard : Claim7 := { stood := { row := fnExactTurnYRow, standIns := [], harness := (true, "c8ac24db77a15ccc35ee3a86cc0e1e9418b69f2f6ab302ae6e5d8c5b917c4853"), looks := false }, kinds := [], alts := [], laidByText := true, laidKinds := [.data, .data], laidTests := true, laidLooks := .later }
def FnExactTurnYCardSaid : Prop := Claim7.holds Tryz.pinned (.plain (OpenSpec.ofChange fnExactTurnYSpec)) fnExactTurnYCard

/-- THE TIED CARD OF 'laws.FnExactTurnZ'. -/
def fnExactTurnZCard : Claim7 := { stood := { row := fnExactTurnZRow, standIns := [], harness := (true, "c8ac24db77a15ccc35ee3a86cc0e1e9418b69f2f6ab302ae6e5d8c5b917c4853"), looks := false }, kinds := [], alts := [], laidByText := true, laidKinds := [.data, .data], laidTests := true, laidLooks := .later }
def FnExactTurnZCardSaid : Prop := Claim7.holds Tryz.pinned (.plain (OpenSpec.ofChange fnExactTurnZSpec)) fnExactTurnZCard

/-- THE TIED CARD OF 'laws.FnExactAsinAt'. -/
def fnExactAsinAtCard : Claim7 := { stood := { row := fnExactAsinAtRow, standIns := [], harness := (true, "c8ac24db77a15ccc35ee3a86cc0e1e9418b69f2f6ab302ae6e5d8c5b917c4853"), looks := false }, kinds := [], alts := [], laidByText := true, laidKinds := [.data, .data], laidTests := true, laidLooks := .later }
def FnExactAsinAtCardSaid : Prop := Claim7.holds Tryz.pinned (.plain (OpenSpec.ofChange fnExactAsinAtSpec)) fnExactAsinAtCard

/-- THE TIED CARD OF 'laws.FnExactAsinI'. -/
def fnExactAsinICard : Claim7 := { stood := { row := fnExactAsinIRow, standIns := [], harness := (true, "c8ac24db77a15ccc35ee3a86cc0e1e9418b69f2f6ab302ae6e5d8c5b917c4853"), looks := false }, kinds := [], alts := [], laidByText := true, laidKinds := [.data, .data], laidTests := true, laidLooks := .later }
def FnExactAsinICardSaid : Prop := Claim7.holds Tryz.pinned (.plain (OpenSpec.ofChange fnExactAsinISpec)) fnExactAsinICard

/-- THE TIED CARD OF 'laws.FnExactAcosI'. -/
def fnExactAcosICard : Claim7 := { stood := { row := fnExactAcosIRow, standIns := [], harness := (true, "c8ac24db77a15ccc35ee3a86cc0e1e9418b69f2f6ab302ae6e5d8c5b917c4853"), looks := false }, kinds := [], alts := [], laidByText := true, laidKinds := [.data, .data], laidTests := true, laidLooks := .later }
def FnExactAcosICardSaid : Prop := Claim7.holds Tryz.pinned (.plain (OpenSpec.ofChange fnExactAcosISpec)) fnExactAcosICard

/-- THE TIED CARD OF 'laws.FnExactAtanAt'. -/
def fnExactAtanAtCard : Claim7 := { stood := { row := fnExactAtanAtRow, standIns := [], harness := (true, "c8ac24db77a15ccc35ee3a86cc0e1e9418b69f2f6ab302ae6e5d8c5b917c4853"), looks := false }, kinds := [], alts := [], laidByText := true, laidKinds := [.data], laidTests := true, laidLooks := .later }
def FnExactAtanAtCardSaid : Prop := Claim7.holds Tryz.pinned (.plain (OpenSpec.ofChange fnExactAtanAtSpec)) fnExactAtanAtCard

/-- THE TIED CARD OF 'laws.FnExactAtanI'. -/
def fnExactAtanICard : Claim7 := { stood := { row := fnExactAtanIRow, standIns := [], harness := (true, "c8ac24db77a15ccc35ee3a86cc0e1e9418b69f2f6ab302ae6e5d8c5b917c4853"), looks := false }, kinds := [], alts := [], laidByText := true, laidKinds := [.data], laidTests := true, laidLooks := .later }
def FnExactAtanICardSaid : Prop := Claim7.holds Tryz.pinned (.plain (OpenSpec.ofChange fnExactAtanISpec)) fnExactAtanICard

/-- THE TIED CARD OF 'laws.FnExactDirectionAt'. -/
def fnExactDirectionAtCard : Claim7 := { stood := { row := fnExactDirectionAtRow, standIns := [], harness := (true, "c8ac24db77a15ccc35ee3a86cc0e1e9418b69f2f6ab302ae6e5d8c5b917c4853"), looks := false }, kinds := [], alts := [], laidByText := true, laidKinds := [.data], laidTests := true, laidLooks := .later }
def FnExactDirectionAtCardSaid : Prop := Claim7.holds Tryz.pinned (.plain (OpenSpec.ofChange fnExactDirectionAtSpec)) fnExactDirectionAtCard

/-- THE TIED CARD OF 'laws.FnExactAsinhI'. -/
def fnExactAsinhICard : Claim7 := { stood := { row := fnExactAsinhIRow, standIns := [], harness := (true, "c8ac24db77a15ccc35ee3a86cc0e1e9418b69f2f6ab302ae6e5d8c5b917c4853"), looks := false }, kinds := [], alts := [], laidByText := true, laidKinds := [.data], laidTests := true, laidLooks := .later }
def FnExactAsinhICardSaid : Prop := Claim7.holds Tryz.pinned (.plain (OpenSpec.ofChange fnExactAsinhISpec)) fnExactAsinhICard

/-- THE TIED CARD OF 'laws.FnVectors'. -/
def fnVectorsCard : Claim7 := { stood := { row := fnVectorsRow, standIns := [], harness := (true, "c8ac24db77a15ccc35ee3a86cc0e1e9418b69f2f6ab302ae6e5d8c5b917c4853"), looks := false }, kinds := [], alts := [], laidByText := true, laidKinds := [.data, .data], laidTests := true, laidLooks := .later }
def FnVectorsCardSaid : Prop := Claim7.holds Tryz.pinned (.plain (OpenSpec.ofChange fnVectorsSpec)) fnVectorsCard

/-- THE SECOND FORM's CARD OF 'laws.FnExactTurnX'. -/
def fnExactTurnXUptoCard : Claim7 := { stood := { row := fnExactTurnXUptoRow, standIns := [], harness := (true, "c8ac24db77a15ccc35ee3a86cc0e1e9418b69f2f6ab302ae6e5d8c5b917c4853"), looks := false }, kinds := [], alts := [], laidByText := true, laidKinds := [.data, .data], laidTests := true, laidLooks := .later }
def FnExactTurnXUptoCardSaid : Prop := Claim7.holds Tryz.pinned (.plain (OpenSpec.upto fnExactTurnXSpec)) fnExactTurnXUptoCard

/-- THE SECOND FORM's CARD OF 'laws.FnExactTurnY'. -/
def fnExactTurnYUptoCard : Claim7 := { stood := { row := fnExactTurnYUptoRow, standIns := [], harness := (true, "c8ac24db77a15ccc35ee3a86cc0e1e9418b69f2f6ab302ae6e5d8c5b917c4853"), looks := false }, kinds := [], alts := [], laidByText := true, laidKinds := [.data, .data], laidTests := true, laidLooks := .later }
def FnExactTurnYUptoCardSaid : Prop := Claim7.holds Tryz.pinned (.plain (OpenSpec.upto fnExactTurnYSpec)) fnExactTurnYUptoCard

/-- THE SECOND FORM's CARD OF 'laws.FnExactTurnZ'. -/
def fnExactTurnZUptoCard : Claim7 := { stood := { row := fnExactTurnZUptoRow, standIns := [], harness := (true, "c8ac24db77a15ccc35ee3a86cc0e1e9418b69f2f6ab302ae6e5d8c5b917c4853"), looks := false }, kinds := [], alts := [], laidByText := true, laidKinds := [.data, .data], laidTests := true, laidLooks := .later }
def FnExactTurnZUptoCardSaid : Prop := Claim7.holds Tryz.pinned (.plain (OpenSpec.upto fnExactTurnZSpec)) fnExactTurnZUptoCard

/-- THE SECOND FORM's CARD OF 'laws.FnExactAsinAt'. -/
def fnExactAsinAtUptoCard : Claim7 := { stood := { row := fnExactAsinAtUptoRow, standIns := [], harness := (true, "c8ac24db77a15ccc35ee3a86cc0e1e9418b69f2f6ab302ae6e5d8c5b917c4853"), looks := false }, kinds := [], alts := [], laidByText := true, laidKinds := [.data, .data], laidTests := true, laidLooks := .later }
def FnExactAsinAtUptoCardSaid : Prop := Claim7.holds Tryz.pinned (.plain (OpenSpec.upto fnExactAsinAtSpec)) fnExactAsinAtUptoCard

/-- THE SECOND FORM's CARD OF 'laws.FnExactAsinI'. -/
def fnExactAsinIUptoCard : Claim7 := { stood := { row := fnExactAsinIUptoRow, standIns := [], harness := (true, "c8ac24db77a15ccc35ee3a86cc0e1e9418b69f2f6ab302ae6e5d8c5b917c4853"), looks := false }, kinds := [], alts := [], laidByText := true, laidKinds := [.data, .data], laidTests := true, laidLooks := .later }
def FnExactAsinIUptoCardSaid : Prop := Claim7.holds Tryz.pinned (.plain (OpenSpec.upto fnExactAsinISpec)) fnExactAsinIUptoCard

/-- THE SECOND FORM's CARD OF 'laws.FnExactAcosI'. -/
def fnExactAcosIUptoCard : Claim7 := { stood := { row := fnExactAcosIUptoRow, standIns := [], harness := (true, "c8ac24db77a15ccc35ee3a86cc0e1e9418b69f2f6ab302ae6e5d8c5b917c4853"), looks := false }, kinds := [], alts := [], laidByText := true, laidKinds := [.data, .data], laidTests := true, laidLooks := .later }
def FnExactAcosIUptoCardSaid : Prop := Claim7.holds Tryz.pinned (.plain (OpenSpec.upto fnExactAcosISpec)) fnExactAcosIUptoCard

/-- THE SECOND FORM's CARD OF 'laws.FnExactAtanAt'. -/
def fnExactAtanAtUptoCard : Claim7 := { stood := { row := fnExactAtanAtUptoRow, standIns := [], harness := (true, "c8ac24db77a15ccc35ee3a86cc0e1e9418b69f2f6ab302ae6e5d8c5b917c4853"), looks := false }, kinds := [], alts := [], laidByText := true, laidKinds := [.data], laidTests := true, laidLooks := .later }
def FnExactAtanAtUptoCardSaid : Prop := Claim7.holds Tryz.pinned (.plain (OpenSpec.upto fnExactAtanAtSpec)) fnExactAtanAtUptoCard

/-- THE SECOND FORM's CARD OF 'laws.FnExactAtanI'. -/
def fnExactAtanIUptoCard : Claim7 := { stood := { row := fnExactAtanIUptoRow, standIns := [], harness := (true, "c8ac24db77a15ccc35ee3a86cc0e1e9418b69f2f6ab302ae6e5d8c5b917c4853"), looks := false }, kinds := [], alts := [], laidByText := true, laidKinds := [.data], laidTests := true, laidLooks := .later }
def FnExactAtanIUptoCardSaid : Prop := Claim7.holds Tryz.pinned (.plain (OpenSpec.upto fnExactAtanISpec)) fnExactAtanIUptoCard

/-- THE SECOND FORM's CARD OF 'laws.FnExactDirectionAt'. -/
def fnExactDirectionAtUptoCard : Claim7 := { stood := { row := fnExactDirectionAtUptoRow, standIns := [], harness := (true, "c8ac24db77a15ccc35ee3a86cc0e1e9418b69f2f6ab302ae6e5d8c5b917c4853"), looks := false }, kinds := [], alts := [], laidByText := true, laidKinds := [.data], laidTests := true, laidLooks := .later }
def FnExactDirectionAtUptoCardSaid : Prop := Claim7.holds Tryz.pinned (.plain (OpenSpec.upto fnExactDirectionAtSpec)) fnExactDirectionAtUptoCard

/-- THE SECOND FORM's CARD OF 'laws.FnExactAsinhI'. -/
def fnExactAsinhIUptoCard : Claim7 := { stood := { row := fnExactAsinhIUptoRow, standIns := [], harness := (true, "c8ac24db77a15ccc35ee3a86cc0e1e9418b69f2f6ab302ae6e5d8c5b917c4853"), looks := false }, kinds := [], alts := [], laidByText := true, laidKinds := [.data], laidTests := true, laidLooks := .later }
def FnExactAsinhIUptoCardSaid : Prop := Claim7.holds Tryz.pinned (.plain (OpenSpec.upto fnExactAsinhISpec)) fnExactAsinhIUptoCard

/-- THE SECOND FORM's CARD OF 'laws.FnVectors'. -/
def fnVectorsUptoCard : Claim7 := { stood := { row := fnVectorsUptoRow, standIns := [], harness := (true, "c8ac24db77a15ccc35ee3a86cc0e1e9418b69f2f6ab302ae6e5d8c5b917c4853"), looks := false }, kinds := [], alts := [], laidByText := true, laidKinds := [.data, .data], laidTests := true, laidLooks := .later }
def FnVectorsUptoCardSaid : Prop := Claim7.holds Tryz.pinned (.plain (OpenSpec.upto fnVectorsSpec)) fnVectorsUptoCard
end Rows
end Go.Proofs.YtmikjgbojknlnaaGreatDoor
