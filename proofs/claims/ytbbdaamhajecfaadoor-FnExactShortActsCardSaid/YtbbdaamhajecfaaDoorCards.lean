/-
  DERIVED. GIVEN WITH THE SEED: THE CARDS: each row of YtbbdaamhajecfaaDoorRows.lean that lists a variable, with what it lists TIED to the program's text (the seventh form; the later family's looks); each row that meets fmt, with fmt's text TOLD by the authors' own Lean function (tested against real Go, not proved from fmt's source: count such statements apart). THE CARD IS WHAT COUNTS. Prove the row's statement (the work); the ties are given (YtbbdaamhajecfaaDoorTie.lean); close each card by the builder's one call (the guide's Derived/Test/ToyasCard.lean, 'card_holds'). Laid BY PROGRAM, IN A SANDBOX (cutbox-door.mjs). By AI agents, Wed Nov 11 2026. No macro, syntax, notation, axiom, sorry.
-/
import Derived.Test.YtbbdaamhajecfaaDoorRows
import GoSem.ClaimSeven
namespace Go.Proofs.YtbbdaamhajecfaaDoor
namespace Rows

/-- THE TIED CARD OF 'laws.FnExactShortActs'. -/
def fnExactShortActsCard : Claim7 := { stood := { row := fnExactShortActsRow, standIns := [], harness := (true, "8cca23c5c9a21566dd76dadb0db0f2684ee7910abae164682d02edfbe1418493"), looks := true }, kinds := [], alts := [], laidByText := true, laidKinds := [.sentinel, .sentinel, .sentinel, .sentinel], laidTests := true, laidLooks := .later }
def FnExactShortActsCardSaid : Prop := Claim7.holds Tryd.pinned (.plain (OpenSpec.ofChange fnExactShortActsSpec)) fnExactShortActsCard

/-- THE SECOND FORM's CARD OF 'laws.FnExactShortActs'. -/
def fnExactShortActsUptoCard : Claim7 := { stood := { row := fnExactShortActsUptoRow, standIns := [], harness := (true, "8cca23c5c9a21566dd76dadb0db0f2684ee7910abae164682d02edfbe1418493"), looks := true }, kinds := [], alts := [], laidByText := true, laidKinds := [.sentinel, .sentinel, .sentinel, .sentinel], laidTests := true, laidLooks := .later }
def FnExactShortActsUptoCardSaid : Prop := Claim7.holds Tryd.pinned (.plain (OpenSpec.upto fnExactShortActsSpec)) fnExactShortActsUptoCard
end Rows
end Go.Proofs.YtbbdaamhajecfaaDoor
