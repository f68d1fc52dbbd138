/-
  DERIVED. GIVEN WITH THE SEED: THE CARDS: each row of YtcbhlljgcndhdaaGreatDoorRows.lean that lists a variable, with what it lists TIED to the program's text (the seventh form; the later family's looks); each row that meets fmt, with fmt's text TOLD by the authors' own Lean function (tested against real Go, not proved from fmt's source: count such statements apart). THE CARD IS WHAT COUNTS. Prove the row's statement (the work); the ties are given (YtcbhlljgcndhdaaGreatDoorTie.lean); close each card by the builder's one call (the guide's Derived/Test/ToyasCard.lean, 'card_holds'). Laid BY PROGRAM, IN A SANDBOX (cutbox-door.mjs). By AI agents, Wed Nov 11 2026. No macro, syntax, notation, axiom, sorry.
-/
import Derived.Test.YtcbhlljgcndhdaaGreatDoorRows
import GoSem.ClaimSeven
namespace Go.Proofs.YtcbhlljgcndhdaaGreatDoor
namespace Rows

/-- THE TIED CARD OF 'laws.FnExactReadTicket'. -/
def fnExactReadTicketCard : Claim7 := { stood := { row := fnExactReadTicketRow, standIns := [], harness := (true, "c897d94eaa21adc5b877a7498b2133d22916dd88f1d61194112e855e473e5f7b"), looks := true }, kinds := [], alts := [], laidByText := true, laidKinds := [.data, .data, .data, .data, .sentinel, .sentinel, .pinned], laidTests := true, laidLooks := .later }
def FnExactReadTicketCardSaid : Prop := Claim7.holds Tryz.pinned (.plain (OpenSpec.ofChange fnExactReadTicketSpec)) fnExactReadTicketCard

/-- THE SECOND FORM's CARD OF 'laws.FnExactReadTicket'. -/
def fnExactReadTicketUptoCard : Claim7 := { stood := { row := fnExactReadTicketUptoRow, standIns := [], harness := (true, "c897d94eaa21adc5b877a7498b2133d22916dd88f1d61194112e855e473e5f7b"), looks := true }, kinds := [], alts := [], laidByText := true, laidKinds := [.data, .data, .data, .data, .sentinel, .sentinel, .pinned], laidTests := true, laidLooks := .later }
def FnExactReadTicketUptoCardSaid : Prop := Claim7.holds Tryz.pinned (.plain (OpenSpec.upto fnExactReadTicketSpec)) fnExactReadTicketUptoCard
end Rows
end Go.Proofs.YtcbhlljgcndhdaaGreatDoor
