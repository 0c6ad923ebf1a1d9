/-
  DERIVED. GIVEN WITH THE SEED: THE CARDS: each row of YtnnanbaldcjfiaaGreatDoorRows.lean that lists a variable, with what it lists TIED to the program's text (the seventh form; the later family's looks); each row that meets fmt, with fmt's text TOLD by the authors' own Lean function (tested against real Go, not proved from fmt's source: count such statements apart). THE CARD IS WHAT COUNTS. Prove the row's statement (the work); the ties are given (YtnnanbaldcjfiaaGreatDoorTie.lean); close each card by the builder's one call (the guide's Derived/Test/ToyasCard.lean, 'card_holds'). Laid BY PROGRAM, IN A SANDBOX (cutbox-door.mjs). By AI agents, Wed Nov 11 2026. No macro, syntax, notation, axiom, sorry.
-/
import Derived.Test.YtnnanbaldcjfiaaGreatDoorRows
import GoSem.ClaimSeven
namespace Go.Proofs.YtnnanbaldcjfiaaGreatDoor
namespace Rows

/-- THE TIED CARD OF 'laws.FnExactLogAt'. -/
def fnExactLogAtCard : Claim7 := { stood := { row := fnExactLogAtRow, standIns := [], harness := (true, "22b2e65a18ab45f927543659793b4bdbe9593f9f525f54861fb39b1cff796cec"), looks := false }, kinds := [], alts := [], laidByText := true, laidKinds := [.data], laidTests := true, laidLooks := .later }
def FnExactLogAtCardSaid : Prop := Claim7.holds Tryz.pinned (.plain (OpenSpec.ofChange fnExactLogAtSpec)) fnExactLogAtCard

/-- THE TIED CARD OF 'laws.FnExactExpI'. -/
def fnExactExpICard : Claim7 := { stood := { row := fnExactExpIRow, standIns := [], harness := (true, "22b2e65a18ab45f927543659793b4bdbe9593f9f525f54861fb39b1cff796cec"), looks := false }, kinds := [], alts := [], laidByText := true, laidKinds := [.data], laidTests := true, laidLooks := .later }
def FnExactExpICardSaid : Prop := Claim7.holds Tryz.pinned (.plain (OpenSpec.ofChange fnExactExpISpec)) fnExactExpICard

/-- THE TIED CARD OF 'laws.FnExactLogI'. -/
def fnExactLogICard : Claim7 := { stood := { row := fnExactLogIRow, standIns := [], harness := (true, "22b2e65a18ab45f927543659793b4bdbe9593f9f525f54861fb39b1cff796cec"), looks := false }, kinds := [], alts := [], laidByText := true, laidKinds := [.data], laidTests := true, laidLooks := .later }
def FnExactLogICardSaid : Prop := Claim7.holds Tryz.pinned (.plain (OpenSpec.ofChange fnExactLogISpec)) fnExactLogICard

/-- THE TIED CARD OF 'laws.FnExactSinhI'. -/
def fnExactSinhICard : Claim7 := { stood := { row := fnExactSinhIRow, standIns := [], harness := (true, "22b2e65a18ab45f927543659793b4bdbe9593f9f525f54861fb39b1cff796cec"), looks := false }, kinds := [], alts := [], laidByText := true, laidKinds := [.data], laidTests := true, laidLooks := .later }
def FnExactSinhICardSaid : Prop := Claim7.holds Tryz.pinned (.plain (OpenSpec.ofChange fnExactSinhISpec)) fnExactSinhICard

/-- THE TIED CARD OF 'laws.FnExactCoshI'. -/
def fnExactCoshICard : Claim7 := { stood := { row := fnExactCoshIRow, standIns := [], harness := (true, "22b2e65a18ab45f927543659793b4bdbe9593f9f525f54861fb39b1cff796cec"), looks := false }, kinds := [], alts := [], laidByText := true, laidKinds := [.data], laidTests := true, laidLooks := .later }
def FnExactCoshICardSaid : Prop := Claim7.holds Tryz.pinned (.plain (OpenSpec.ofChange fnExactCoshISpec)) fnExactCoshICard

/-- THE TIED CARD OF 'laws.FnExactTanhI'. -/
def fnExactTanhICard : Claim7 := { stood := { row := fnExactTanhIRow, standIns := [], harness := (true, "22b2e65a18ab45f927543659793b4bdbe9593f9f525f54861fb39b1cff796cec"), looks := false }, kinds := [], alts := [], laidByText := true, laidKinds := [.data], laidTests := true, laidLooks := .later }
def FnExactTanhICardSaid : Prop := Claim7.holds Tryz.pinned (.plain (OpenSpec.ofChange fnExactTanhISpec)) fnExactTanhICard

/-- THE TIED CARD OF 'laws.FnExactAsinhI'. -/
def fnExactAsinhICard : Claim7 := { stood := { row := fnExactAsinhIRow, standIns := [], harness := (true, "22b2e65a18ab45f927543659793b4bdbe9593f9f525f54861fb39b1cff796cec"), looks := false }, kinds := [], alts := [], laidByText := true, laidKinds := [.data], laidTests := true, laidLooks := .later }
def FnExactAsinhICardSaid : Prop := Claim7.holds Tryz.pinned (.plain (OpenSpec.ofChange fnExactAsinhISpec)) fnExactAsinhICard

/-- THE TIED CARD OF 'laws.FnExactAtanhI'. -/
def fnExactAtanhICard : Claim7 := { stood := { row := fnExactAtanhIRow, standIns := [], harness := (true, "22b2e65a18ab45f927543659793b4bdbe9593f9f525f54861fb39b1cff796cec"), looks := false }, kinds := [], alts := [], laidByText := true, laidKinds := [.data], laidTests := true, laidLooks := .later }
def FnExactAtanhICardSaid : Prop := Claim7.holds Tryz.pinned (.plain (OpenSpec.ofChange fnExactAtanhISpec)) fnExactAtanhICard

/-- THE SECOND FORM's CARD OF 'laws.FnExactLogAt'. -/
def fnExactLogAtUptoCard : Claim7 := { stood := { row := fnExactLogAtUptoRow, standIns := [], harness := (true, "22b2e65a18ab45f927543659793b4bdbe9593f9f525f54861fb39b1cff796cec"), looks := false }, kinds := [], alts := [], laidByText := true, laidKinds := [.data], laidTests := true, laidLooks := .later }
def FnExactLogAtUptoCardSaid : Prop := Claim7.holds Tryz.pinned (.plain (OpenSpec.upto fnExactLogAtSpec)) fnExactLogAtUptoCard

/-- THE SECOND FORM's CARD OF 'laws.FnExactExpI'. -/
def fnExactExpIUptoCard : Claim7 := { stood := { row := fnExactExpIUptoRow, standIns := [], harness := (true, "22b2e65a18ab45f927543659793b4bdbe9593f9f525f54861fb39b1cff796cec"), looks := false }, kinds := [], alts := [], laidByText := true, laidKinds := [.data], laidTests := true, laidLooks := .later }
def FnExactExpIUptoCardSaid : Prop := Claim7.holds Tryz.pinned (.plain (OpenSpec.upto fnExactExpISpec)) fnExactExpIUptoCard

/-- THE SECOND FORM's CARD OF 'laws.FnExactLogI'. -/
def fnExactLogIUptoCard : Claim7 := { stood := { row := fnExactLogIUptoRow, standIns := [], harness := (true, "22b2e65a18ab45f927543659793b4bdbe9593f9f525f54861fb39b1cff796cec"), looks := false }, kinds := [], alts := [], laidByText := true, laidKinds := [.data], laidTests := true, laidLooks := .later }
def FnExactLogIUptoCardSaid : Prop := Claim7.holds Tryz.pinned (.plain (OpenSpec.upto fnExactLogISpec)) fnExactLogIUptoCard

/-- THE SECOND FORM's CARD OF 'laws.FnExactSinhI'. -/
def fnExactSinhIUptoCard : Claim7 := { stood := { row := fnExactSinhIUptoRow, standIns := [], harness := (true, "22b2e65a18ab45f927543659793b4bdbe9593f9f525f54861fb39b1cff796cec"), looks := false }, kinds := [], alts := [], laidByText := true, laidKinds := [.data], laidTests := true, laidLooks := .later }
def FnExactSinhIUptoCardSaid : Prop := Claim7.holds Tryz.pinned (.plain (OpenSpec.upto fnExactSinhISpec)) fnExactSinhIUptoCard

/-- THE SECOND FORM's CARD OF 'laws.FnExactCoshI'. -/
def fnExactCoshIUptoCard : Claim7 := { stood := { row := fnExactCoshIUptoRow, standIns := [], harness := (true, "22b2e65a18ab45f927543659793b4bdbe9593f9f525f54861fb39b1cff796cec"), looks := false }, kinds := [], alts := [], laidByText := true, laidKinds := [.data], laidTests := true, laidLooks := .later }
def FnExactCoshIUptoCardSaid : Prop := Claim7.holds Tryz.pinned (.plain (OpenSpec.upto fnExactCoshISpec)) fnExactCoshIUptoCard

/-- THE SECOND FORM's CARD OF 'laws.FnExactTanhI'. -/
def fnExactTanhIUptoCard : Claim7 := { stood := { row := fnExactTanhIUptoRow, standIns := [], harness := (true, "22b2e65a18ab45f927543659793b4bdbe9593f9f525f54861fb39b1cff796cec"), looks := false }, kinds := [], alts := [], laidByText := true, laidKinds := [.data], laidTests := true, laidLooks := .later }
def FnExactTanhIUptoCardSaid : Prop := Claim7.holds Tryz.pinned (.plain (OpenSpec.upto fnExactTanhISpec)) fnExactTanhIUptoCard

/-- THE SECOND FORM's CARD OF 'laws.FnExactAsinhI'. -/
def fnExactAsinhIUptoCard : Claim7 := { stood := { row := fnExactAsinhIUptoRow, standIns := [], harness := (true, "22b2e65a18ab45f927543659793b4bdbe9593f9f525f54861fb39b1cff796cec"), looks := false }, kinds := [], alts := [], laidByText := true, laidKinds := [.data], laidTests := true, laidLooks := .later }
def FnExactAsinhIUptoCardSaid : Prop := Claim7.holds Tryz.pinned (.plain (OpenSpec.upto fnExactAsinhISpec)) fnExactAsinhIUptoCard

/-- THE SECOND FORM's CARD OF 'laws.FnExactAtanhI'. -/
def fnExactAtanhIUptoCard : Claim7 := { stood := { row := fnExactAtanhIUptoRow, standIns := [], harness := (true, "22b2e65a18ab45f927543659793b4bdbe9593f9f525f54861fb39b1cff796cec"), looks := false }, kinds := [], alts := [], laidByText := true, laidKinds := [.data], laidTests := true, laidLooks := .later }
def FnExactAtanhIUptoCardSaid : Prop := Claim7.holds Tryz.pinned (.plain (OpenSpec.upto fnExactAtanhISpec)) fnExactAtanhIUptoCard
end Rows
end Go.Proofs.YtnnanbaldcjfiaaGreatDoor
