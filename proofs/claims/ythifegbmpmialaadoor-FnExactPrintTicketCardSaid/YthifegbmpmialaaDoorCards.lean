/-
  DERIVED. GIVEN WITH THE SEED: THE CARDS: each row of YthifegbmpmialaaDoorRows.lean that lists a variable, with what it lists TIED to the program's text (the seventh form; the later family's looks); each row that meets fmt, with fmt's text TOLD by the authors' own Lean function (tested against real Go, not proved from fmt's source: count such statements apart). THE CARD IS WHAT COUNTS. Prove the row's statement (the work); the ties are given (YthifegbmpmialaaDoorTie.lean); close each card by the builder's one call (the guide's Derived/Test/ToyasCard.lean, 'card_holds'). Laid BY PROGRAM, IN A SANDBOX (cutbox-door.mjs). By AI agents, Wed Nov 11 2026. No macro, syntax, notation, axiom, sorry.
-/
import Derived.Test.YthifegbmpmialaaDoorRows
import GoSem.ClaimSeven
namespace Go.Proofs.YthifegbmpmialaaDoor
namespace Rows

/-- THE TIED CARD OF 'laws.FnExactDoAct'. -/
def fnExactDoActCard : Claim7 := { stood := { row := fnExactDoActRow, standIns := [], harness := (true, "97c9c91f24931f3ea8f52d39556b258be2217947b581c95aea7299e51206caa0"), looks := true }, kinds := [], alts := [], laidByText := true, laidKinds := [.sentinel, .sentinel, .sentinel, .sentinel], laidTests := true, laidLooks := .later }
def FnExactDoActCardSaid : Prop := Claim7.holds Tryd.pinned (.plain (OpenSpec.ofChange fnExactDoActSpec)) fnExactDoActCard

/-- THE TIED CARD OF 'laws.FnExactDoActs'. -/
def fnExactDoActsCard : Claim7 := { stood := { row := fnExactDoActsRow, standIns := [], harness := (true, "97c9c91f24931f3ea8f52d39556b258be2217947b581c95aea7299e51206caa0"), looks := true }, kinds := [], alts := [], laidByText := true, laidKinds := [.sentinel, .sentinel, .sentinel, .sentinel], laidTests := true, laidLooks := .later }
def FnExactDoActsCardSaid : Prop := Claim7.holds Tryd.pinned (.plain (OpenSpec.ofChange fnExactDoActsSpec)) fnExactDoActsCard

/-- THE TIED CARD OF 'laws.FnExactPrintTicket'. -/
def fnExactPrintTicketCard : Claim7 := { stood := { row := fnExactPrintTicketRow, standIns := [], harness := (true, "97c9c91f24931f3ea8f52d39556b258be2217947b581c95aea7299e51206caa0"), looks := true }, kinds := [], alts := [], laidByText := true, laidKinds := [.sentinel, .sentinel, .sentinel, .sentinel], laidTests := true, laidLooks := .later }
def FnExactPrintTicketCardSaid : Prop := Claim7.holds Tryd.pinned (.plain (OpenSpec.ofChange fnExactPrintTicketSpec)) fnExactPrintTicketCard

/-- THE TIED CARD OF 'laws.FnExactTicketsOf'. -/
def fnExactTicketsOfCard : Claim7 := { stood := { row := fnExactTicketsOfRow, standIns := [], harness := (true, "97c9c91f24931f3ea8f52d39556b258be2217947b581c95aea7299e51206caa0"), looks := true }, kinds := [], alts := [], laidByText := true, laidKinds := [.sentinel, .sentinel, .sentinel, .sentinel], laidTests := true, laidLooks := .later }
def FnExactTicketsOfCardSaid : Prop := Claim7.holds Tryd.pinned (.plain (OpenSpec.ofChange fnExactTicketsOfSpec)) fnExactTicketsOfCard

/-- THE TIED CARD OF 'laws.FnExactJournalOf'. -/
def fnExactJournalOfCard : Claim7 := { stood := { row := fnExactJournalOfRow, standIns := [], harness := (true, "97c9c91f24931f3ea8f52d39556b258be2217947b581c95aea7299e51206caa0"), looks := true }, kinds := [], alts := [], laidByText := true, laidKinds := [.sentinel, .sentinel, .sentinel, .sentinel], laidTests := true, laidLooks := .later }
def FnExactJournalOfCardSaid : Prop := Claim7.holds Tryd.pinned (.plain (OpenSpec.ofChange fnExactJournalOfSpec)) fnExactJournalOfCard

/-- THE TIED CARD OF 'laws.FnExactFirstWrong'. -/
def fnExactFirstWrongCard : Claim7 := { stood := { row := fnExactFirstWrongRow, standIns := [], harness := (true, "97c9c91f24931f3ea8f52d39556b258be2217947b581c95aea7299e51206caa0"), looks := true }, kinds := [], alts := [], laidByText := true, laidKinds := [.sentinel], laidTests := true, laidLooks := .later }
def FnExactFirstWrongCardSaid : Prop := Claim7.holds Tryd.pinned (.plain (OpenSpec.ofChange fnExactFirstWrongSpec)) fnExactFirstWrongCard

/-- THE SECOND FORM's CARD OF 'laws.FnExactDoAct'. -/
def fnExactDoActUptoCard : Claim7 := { stood := { row := fnExactDoActUptoRow, standIns := [], harness := (true, "97c9c91f24931f3ea8f52d39556b258be2217947b581c95aea7299e51206caa0"), looks := true }, kinds := [], alts := [], laidByText := true, laidKinds := [.sentinel, .sentinel, .sentinel, .sentinel], laidTests := true, laidLooks := .later }
def FnExactDoActUptoCardSaid : Prop := Claim7.holds Tryd.pinned (.plain (OpenSpec.upto fnExactDoActSpec)) fnExactDoActUptoCard

/-- THE SECOND FORM's CARD OF 'laws.FnExactDoActs'. -/
def fnExactDoActsUptoCard : Claim7 := { stood := { row := fnExactDoActsUptoRow, standIns := [], harness := (true, "97c9c91f24931f3ea8f52d39556b258be2217947b581c95aea7299e51206caa0"), looks := true }, kinds := [], alts := [], laidByText := true, laidKinds := [.sentinel, .sentinel, .sentinel, .sentinel], laidTests := true, laidLooks := .later }
def FnExactDoActsUptoCardSaid : Prop := Claim7.holds Tryd.pinned (.plain (OpenSpec.upto fnExactDoActsSpec)) fnExactDoActsUptoCard

/-- THE SECOND FORM's CARD OF 'laws.FnExactPrintTicket'. -/
def fnExactPrintTicketUptoCard : Claim7 := { stood := { row := fnExactPrintTicketUptoRow, standIns := [], harness := (true, "97c9c91f24931f3ea8f52d39556b258be2217947b581c95aea7299e51206caa0"), looks := true }, kinds := [], alts := [], laidByText := true, laidKinds := [.sentinel, .sentinel, .sentinel, .sentinel], laidTests := true, laidLooks := .later }
def FnExactPrintTicketUptoCardSaid : Prop := Claim7.holds Tryd.pinned (.plain (OpenSpec.upto fnExactPrintTicketSpec)) fnExactPrintTicketUptoCard

/-- THE SECOND FORM's CARD OF 'laws.FnExactTicketsOf'. -/
def fnExactTicketsOfUptoCard : Claim7 := { stood := { row := fnExactTicketsOfUptoRow, standIns := [], harness := (true, "97c9c91f24931f3ea8f52d39556b258be2217947b581c95aea7299e51206caa0"), looks := true }, kinds := [], alts := [], laidByText := true, laidKinds := [.sentinel, .sentinel, .sentinel, .sentinel], laidTests := true, laidLooks := .later }
def FnExactTicketsOfUptoCardSaid : Prop := Claim7.holds Tryd.pinned (.plain (OpenSpec.upto fnExactTicketsOfSpec)) fnExactTicketsOfUptoCard

/-- THE SECOND FORM's CARD OF 'laws.FnExactJournalOf'. -/
def fnExactJournalOfUptoCard : Claim7 := { stood := { row := fnExactJournalOfUptoRow, standIns := [], harness := (true, "97c9c91f24931f3ea8f52d39556b258be2217947b581c95aea7299e51206caa0"), looks := true }, kinds := [], alts := [], laidByText := true, laidKinds := [.sentinel, .sentinel, .sentinel, .sentinel], laidTests := true, laidLooks := .later }
def FnExactJournalOfUptoCardSaid : Prop := Claim7.holds Tryd.pinned (.plain (OpenSpec.upto fnExactJournalOfSpec)) fnExactJournalOfUptoCard

/-- THE SECOND FORM's CARD OF 'laws.FnExactFirstWrong'. -/
def fnExactFirstWrongUptoCard : Claim7 := { stood := { row := fnExactFirstWrongUptoRow, standIns := [], harness := (true, "97c9c91f24931f3ea8f52d39556b258be2217947b581c95aea7299e51206caa0"), looks := true }, kinds := [], alts := [], laidByText := true, laidKinds := [.sentinel], laidTests := true, laidLooks := .later }
def FnExactFirstWrongUptoCardSaid : Prop := Claim7.holds Tryd.pinned (.plain (OpenSpec.upto fnExactFirstWrongSpec)) fnExactFirstWrongUptoCard
end Rows
end Go.Proofs.YthifegbmpmialaaDoor
