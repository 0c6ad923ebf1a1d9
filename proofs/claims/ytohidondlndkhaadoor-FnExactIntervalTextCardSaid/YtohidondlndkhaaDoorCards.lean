/-
  DERIVED. GIVEN WITH THE SEED: THE CARDS: each row of YtohidondlndkhaaDoorRows.lean that lists a variable, with what it lists TIED to the program's text (the seventh form; the later family's looks); each row that meets fmt, with fmt's text TOLD by the authors' own Lean function (tested against real Go, not proved from fmt's source: count such statements apart). THE CARD IS WHAT COUNTS. Prove the row's statement (the work); the ties are given (YtohidondlndkhaaDoorTie.lean); close each card by the builder's one call (the guide's Derived/Test/ToyasCard.lean, 'card_holds'). Laid BY PROGRAM, IN A SANDBOX (cutbox-door.mjs). By AI agents, Wed Nov 11 2026. No macro, syntax, notation, axiom, sorry.
-/
import Derived.Test.YtohidondlndkhaaDoorRows
import GoSem.ClaimSeven
namespace Go.Proofs.YtohidondlndkhaaDoor
namespace Rows

/-- THE TIED CARD OF 'laws.FnExactTextDown'. -/
def fnExactTextDownCard : Claim7 := { stood := { row := fnExactTextDownRow, standIns := [], harness := (true, "d03e3c81742e8e6d0eaf7db64ff45d3611a16fc175a544fa7e5eb946b949de38"), looks := false }, kinds := [], alts := [], laidByText := true, laidKinds := [.data, .data, .data], laidTests := true, laidLooks := .later }
def FnExactTextDownCardSaid : Prop := Claim7.holds Tryd.pinned (.plain (OpenSpec.ofChange fnExactTextDownSpec)) fnExactTextDownCard

/-- THE TIED CARD OF 'laws.FnExactTextUp'. -/
def fnExactTextUpCard : Claim7 := { stood := { row := fnExactTextUpRow, standIns := [], harness := (true, "d03e3c81742e8e6d0eaf7db64ff45d3611a16fc175a544fa7e5eb946b949de38"), looks := false }, kinds := [], alts := [], laidByText := true, laidKinds := [.data, .data, .data], laidTests := true, laidLooks := .later }
def FnExactTextUpCardSaid : Prop := Claim7.holds Tryd.pinned (.plain (OpenSpec.ofChange fnExactTextUpSpec)) fnExactTextUpCard

/-- THE TIED CARD OF 'laws.FnExactIntervalText'. -/
def fnExactIntervalTextCard : Claim7 := { stood := { row := fnExactIntervalTextRow, standIns := [], harness := (true, "d03e3c81742e8e6d0eaf7db64ff45d3611a16fc175a544fa7e5eb946b949de38"), looks := false }, kinds := [], alts := [], laidByText := true, laidKinds := [.data, .data, .data], laidTests := true, laidLooks := .later }
def FnExactIntervalTextCardSaid : Prop := Claim7.holds Tryd.pinned (.plain (OpenSpec.ofChange fnExactIntervalTextSpec)) fnExactIntervalTextCard

/-- THE SECOND FORM's CARD OF 'laws.FnExactTextDown'. -/
def fnExactTextDownUptoCard : Claim7 := { stood := { row := fnExactTextDownUptoRow, standIns := [], harness := (true, "d03e3c81742e8e6d0eaf7db64ff45d3611a16fc175a544fa7e5eb946b949de38"), looks := false }, kinds := [], alts := [], laidByText := true, laidKinds := [.data, .data, .data], laidTests := true, laidLooks := .later }
def FnExactTextDownUptoCardSaid : Prop := Claim7.holds Tryd.pinned (.plain (OpenSpec.upto fnExactTextDownSpec)) fnExactTextDownUptoCard

/-- THE SECOND FORM's CARD OF 'laws.FnExactTextUp'. -/
def fnExactTextUpUptoCard : Claim7 := { stood := { row := fnExactTextUpUptoRow, standIns := [], harness := (true, "d03e3c81742e8e6d0eaf7db64ff45d3611a16fc175a544fa7e5eb946b949de38"), looks := false }, kinds := [], alts := [], laidByText := true, laidKinds := [.data, .data, .data], laidTests := true, laidLooks := .later }
def FnExactTextUpUptoCardSaid : Prop := Claim7.holds Tryd.pinned (.plain (OpenSpec.upto fnExactTextUpSpec)) fnExactTextUpUptoCard

/-- THE SECOND FORM's CARD OF 'laws.FnExactIntervalText'. -/
def fnExactIntervalTextUptoCard : Claim7 := { stood := { row := fnExactIntervalTextUptoRow, standIns := [], harness := (true, "d03e3c81742e8e6d0eaf7db64ff45d3611a16fc175a544fa7e5eb946b949de38"), looks := false }, kinds := [], alts := [], laidByText := true, laidKinds := [.data, .data, .data], laidTests := true, laidLooks := .later }
def FnExactIntervalTextUptoCardSaid : Prop := Claim7.holds Tryd.pinned (.plain (OpenSpec.upto fnExactIntervalTextSpec)) fnExactIntervalTextUptoCard
end Rows
end Go.Proofs.YtohidondlndkhaaDoor
