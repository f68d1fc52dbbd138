/-
  DERIVED. GIVEN WITH THE SEED: THE CARDS: each row of YtoecgkfhloahaaaDoorRows.lean that lists a variable, with what it lists TIED to the program's text (the seventh form; the later family's looks); each row that meets fmt, with fmt's text TOLD by the authors' own Lean function (tested against real Go, not proved from fmt's source: count such statements apart). THE CARD IS WHAT COUNTS. Prove the row's statement (the work); the ties are given (YtoecgkfhloahaaaDoorTie.lean); close each card by the builder's one call (the guide's Derived/Test/ToyasCard.lean, 'card_holds'). Laid BY PROGRAM, IN A SANDBOX (cutbox-door.mjs). By AI agents, Wed Nov 11 2026. No macro, syntax, notation, axiom, sorry.
-/
import Derived.Test.YtoecgkfhloahaaaDoorRows
import GoSem.ClaimSeven
namespace Go.Proofs.YtoecgkfhloahaaaDoor
namespace Rows

/-- THE TIED CARD OF 'laws.FnExactReadStack'. -/
def fnExactReadStackCard : Claim7 := { stood := { row := fnExactReadStackRow, standIns := [], harness := (true, "a33054e65a68e1e832e8773a1afab67d8b566b247264a16645a4fdfdd386720c"), looks := true }, kinds := [], alts := [], laidByText := true, laidKinds := [.data, .data, .data, .data, .sentinel, .sentinel, .pinned], laidTests := true, laidLooks := .later }
def FnExactReadStackCardSaid : Prop := Claim7.holds Tryd.pinned (.plain (OpenSpec.ofChange fnExactReadStackSpec)) fnExactReadStackCard

/-- THE TIED CARD OF 'laws.FnExactReadDigits'. -/
def fnExactReadDigitsCard : Claim7 := { stood := { row := fnExactReadDigitsRow, standIns := [], harness := (true, "a33054e65a68e1e832e8773a1afab67d8b566b247264a16645a4fdfdd386720c"), looks := true }, kinds := [], alts := [], laidByText := true, laidKinds := [.data, .data, .data, .data, .sentinel, .sentinel, .pinned], laidTests := true, laidLooks := .later }
def FnExactReadDigitsCardSaid : Prop := Claim7.holds Tryd.pinned (.plain (OpenSpec.ofChange fnExactReadDigitsSpec)) fnExactReadDigitsCard

/-- THE SECOND FORM's CARD OF 'laws.FnExactReadStack'. -/
def fnExactReadStackUptoCard : Claim7 := { stood := { row := fnExactReadStackUptoRow, standIns := [], harness := (true, "a33054e65a68e1e832e8773a1afab67d8b566b247264a16645a4fdfdd386720c"), looks := true }, kinds := [], alts := [], laidByText := true, laidKinds := [.data, .data, .data, .data, .sentinel, .sentinel, .pinned], laidTests := true, laidLooks := .later }
def FnExactReadStackUptoCardSaid : Prop := Claim7.holds Tryd.pinned (.plain (OpenSpec.upto fnExactReadStackSpec)) fnExactReadStackUptoCard

/-- THE SECOND FORM's CARD OF 'laws.FnExactReadDigits'. -/
def fnExactReadDigitsUptoCard : Claim7 := { stood := { row := fnExactReadDigitsUptoRow, standIns := [], harness := (true, "a33054e65a68e1e832e8773a1afab67d8b566b247264a16645a4fdfdd386720c"), looks := true }, kinds := [], alts := [], laidByText := true, laidKinds := [.data, .data, .data, .data, .sentinel, .sentinel, .pinned], laidTests := true, laidLooks := .later }
def FnExactReadDigitsUptoCardSaid : Prop := Claim7.holds Tryd.pinned (.plain (OpenSpec.upto fnExactReadDigitsSpec)) fnExactReadDigitsUptoCard
end Rows
end Go.Proofs.YtoecgkfhloahaaaDoor
