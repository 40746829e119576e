/-
  DERIVED. GIVEN WITH THE SEED: THE CARDS: each row of YtaekkjhpdendoaaDoorRows.lean that lists a variable, with what it lists TIED to the program's text (the seventh form; the later family's looks); each row that meets fmt, with fmt's text TOLD by the authors' own Lean function (tested against real Go, not proved from fmt's source: count such statements apart). THE CARD IS WHAT COUNTS. Prove the row's statement (the work); the ties are given (YtaekkjhpdendoaaDoorTie.lean); close each card by the builder's one call (the guide's Derived/Test/ToyasCard.lean, 'card_holds'). Laid BY PROGRAM, IN A SANDBOX (cutbox-door.mjs). By AI agents, Wed Nov 11 2026. No macro, syntax, notation, axiom, sorry.
-/
import Derived.Test.YtaekkjhpdendoaaDoorRows
import GoSem.ClaimSeven
namespace Go.Proofs.YtaekkjhpdendoaaDoor
namespace Rows

/-- THE TIED CARD OF 'gessolaw11.IdentOrders'. -/
def identOrdersCard : Claim7 := { stood := { row := identOrdersRow, standIns := [], harness := (true, "d49c350ad447991527e56bc3a3c696a246ea99d563576b79bf31815c7a3c5b23"), looks := true }, kinds := [], alts := [], laidByText := true, laidKinds := [.data, .data, .data], laidTests := true, laidLooks := .later }
def IdentOrdersCardSaid : Prop := Claim7.holds Tryd.pinned (.plain (OpenSpec.ofChange identOrdersSpec)) identOrdersCard

/-- THE TIED CARD OF 'gessolaw11.IdentClocks'. -/
def identClocksCard : Claim7 := { stood := { row := identClocksRow, standIns := [], harness := (true, "d49c350ad447991527e56bc3a3c696a246ea99d563576b79bf31815c7a3c5b23"), looks := true }, kinds := [], alts := [], laidByText := true, laidKinds := [.data, .data, .data], laidTests := true, laidLooks := .later }
def IdentClocksCardSaid : Prop := Claim7.holds Tryd.pinned (.plain (OpenSpec.ofChange identClocksSpec)) identClocksCard

/-- THE TIED CARD OF 'gessolaw11.IdentTexts'. -/
def identTextsCard : Claim7 := { stood := { row := identTextsRow, standIns := [], harness := (true, "d49c350ad447991527e56bc3a3c696a246ea99d563576b79bf31815c7a3c5b23"), looks := true }, kinds := [], alts := [], laidByText := true, laidKinds := [.data, .data, .data], laidTests := true, laidLooks := .later }
def IdentTextsCardSaid : Prop := Claim7.holds Tryd.pinned (.plain (OpenSpec.ofChange identTextsSpec)) identTextsCard

/-- THE TIED CARD OF 'gessolaw11.IdentTotal'. -/
def identTotalCard : Claim7 := { stood := { row := identTotalRow, standIns := [], harness := (true, "d49c350ad447991527e56bc3a3c696a246ea99d563576b79bf31815c7a3c5b23"), looks := true }, kinds := [], alts := [], laidByText := true, laidKinds := [.data, .data, .data], laidTests := true, laidLooks := .later }
def IdentTotalCardSaid : Prop := Claim7.holds Tryd.pinned (.plain (OpenSpec.ofChange identTotalSpec)) identTotalCard

/-- THE TIED CARD OF 'gessolaw11.IdentGives'. -/
def identGivesCard : Claim7 := { stood := { row := identGivesRow, standIns := [], harness := (true, "d49c350ad447991527e56bc3a3c696a246ea99d563576b79bf31815c7a3c5b23"), looks := true }, kinds := [], alts := [], laidByText := true, laidKinds := [.data, .data, .data], laidTests := true, laidLooks := .later }
def IdentGivesCardSaid : Prop := Claim7.holds Tryd.pinned (.plain (OpenSpec.ofChange identGivesSpec)) identGivesCard

/-- THE TIED CARD OF 'gessolaw11.IdentBack'. -/
def identBackCard : Claim7 := { stood := { row := identBackRow, standIns := [], harness := (true, "d49c350ad447991527e56bc3a3c696a246ea99d563576b79bf31815c7a3c5b23"), looks := true }, kinds := [], alts := [], laidByText := true, laidKinds := [.data, .data, .data], laidTests := true, laidLooks := .later }
def IdentBackCardSaid : Prop := Claim7.holds Tryd.pinned (.plain (OpenSpec.ofChange identBackSpec)) identBackCard

/-- THE SECOND FORM's CARD OF 'gessolaw11.IdentOrders'. -/
def identOrdersUptoCard : Claim7 := { stood := { row := identOrdersUptoRow, standIns := [], harness := (true, "d49c350ad447991527e56bc3a3c696a246ea99d563576b79bf31815c7a3c5b23"), looks := true }, kinds := [], alts := [], laidByText := true, laidKinds := [.data, .data, .data], laidTests := true, laidLooks := .later }
def IdentOrdersUptoCardSaid : Prop := Claim7.holds Tryd.pinned (.plain (OpenSpec.upto identOrdersSpec)) identOrdersUptoCard

/-- THE SECOND FORM's CARD OF 'gessolaw11.IdentClocks'. -/
def identClocksUptoCard : Claim7 := { stood := { row := identClocksUptoRow, standIns := [], harness := (true, "d49c350ad447991527e56bc3a3c696a246ea99d563576b79bf31815c7a3c5b23"), looks := true }, kinds := [], alts := [], laidByText := true, laidKinds := [.data, .data, .data], laidTests := true, laidLooks := .later }
def IdentClocksUptoCardSaid : Prop := Claim7.holds Tryd.pinned (.plain (OpenSpec.upto identClocksSpec)) identClocksUptoCard

/-- THE SECOND FORM's CARD OF 'gessolaw11.IdentTexts'. -/
def identTextsUptoCard : Claim7 := { stood := { row := identTextsUptoRow, standIns := [], harness := (true, "d49c350ad447991527e56bc3a3c696a246ea99d563576b79bf31815c7a3c5b23"), looks := true }, kinds := [], alts := [], laidByText := true, laidKinds := [.data, .data, .data], laidTests := true, laidLooks := .later }
def IdentTextsUptoCardSaid : Prop := Claim7.holds Tryd.pinned (.plain (OpenSpec.upto identTextsSpec)) identTextsUptoCard

/-- THE SECOND FORM's CARD OF 'gessolaw11.IdentTotal'. -/
def identTotalUptoCard : Claim7 := { stood := { row := identTotalUptoRow, standIns := [], harness := (true, "d49c350ad447991527e56bc3a3c696a246ea99d563576b79bf31815c7a3c5b23"), looks := true }, kinds := [], alts := [], laidByText := true, laidKinds := [.data, .data, .data], laidTests := true, laidLooks := .later }
def IdentTotalUptoCardSaid : Prop := Claim7.holds Tryd.pinned (.plain (OpenSpec.upto identTotalSpec)) identTotalUptoCard

/-- THE SECOND FORM's CARD OF 'gessolaw11.IdentGives'. -/
def identGivesUptoCard : Claim7 := { stood := { row := identGivesUptoRow, standIns := [], harness := (true, "d49c350ad447991527e56bc3a3c696a246ea99d563576b79bf31815c7a3c5b23"), looks := true }, kinds := [], alts := [], laidByText := true, laidKinds := [.data, .data, .data], laidTests := true, laidLooks := .later }
def IdentGivesUptoCardSaid : Prop := Claim7.holds Tryd.pinned (.plain (OpenSpec.upto identGivesSpec)) identGivesUptoCard

/-- THE SECOND FORM's CARD OF 'gessolaw11.IdentBack'. -/
def identBackUptoCard : Claim7 := { stood := { row := identBackUptoRow, standIns := [], harness := (true, "d49c350ad447991527e56bc3a3c696a246ea99d563576b79bf31815c7a3c5b23"), looks := true }, kinds := [], alts := [], laidByText := true, laidKinds := [.data, .data, .data], laidTests := true, laidLooks := .later }
def IdentBackUptoCardSaid : Prop := Claim7.holds Tryd.pinned (.plain (OpenSpec.upto identBackSpec)) identBackUptoCard
end Rows
end Go.Proofs.YtaekkjhpdendoaaDoor
