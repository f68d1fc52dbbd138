/-
  DERIVED. GIVEN WITH THE SEED: THE CARDS: each row of YtfbhpikjhidncaaDoorRows.lean that lists a variable, with what it lists TIED to the program's text (the seventh form; the later family's looks); each row that meets fmt, with fmt's text TOLD by the authors' own Lean function (tested against real Go, not proved from fmt's source: count such statements apart). THE CARD IS WHAT COUNTS. Prove the row's statement (the work); the ties are given (YtfbhpikjhidncaaDoorTie.lean); close each card by the builder's one call (the guide's Derived/Test/ToyasCard.lean, 'card_holds'). Laid BY PROGRAM, IN A SANDBOX (cutbox-door.mjs). By AI agents, Wed Nov 11 2026. No macro, syntax, notation, axiom, sorry.
-/
import Derived.Test.YtfbhpikjhidncaaDoorRows
import GoSem.ClaimSeven
namespace Go.Proofs.YtfbhpikjhidncaaDoor
namespace Rows

/-- THE TIED CARD OF 'laws.FnExactDigitsText'. -/
def fnExactDigitsTextCard : Claim7 := { stood := { row := fnExactDigitsTextRow, standIns := [], harness := (true, "f645ca43b7b0b99a4af43489260facf7a1f2ae34a61079aa28981ce156c9824d"), looks := true }, kinds := [], alts := [], laidByText := true, laidKinds := [.data, .data, .data], laidTests := true, laidLooks := .later }
def FnExactDigitsTextCardSaid : Prop := Claim7.holds Tryd.pinned (.plain (OpenSpec.ofChange fnExactDigitsTextSpec)) fnExactDigitsTextCard

/-- THE TIED CARD OF 'laws.FnExactReadDigits'. -/
def fnExactReadDigitsCard : Claim7 := { stood := { row := fnExactReadDigitsRow, standIns := [], harness := (true, "f645ca43b7b0b99a4af43489260facf7a1f2ae34a61079aa28981ce156c9824d"), looks := true }, kinds := [], alts := [], laidByText := true, laidKinds := [.data, .data, .data, .data, .sentinel, .sentinel, .pinned], laidTests := true, laidLooks := .later }
def FnExactReadDigitsCardSaid : Prop := Claim7.holds Tryd.pinned (.plain (OpenSpec.ofChange fnExactReadDigitsSpec)) fnExactReadDigitsCard

/-- THE TIED CARD OF 'laws.FnExactStackText'. -/
def fnExactStackTextCard : Claim7 := { stood := { row := fnExactStackTextRow, standIns := [], harness := (true, "f645ca43b7b0b99a4af43489260facf7a1f2ae34a61079aa28981ce156c9824d"), looks := true }, kinds := [], alts := [], laidByText := true, laidKinds := [.data, .data, .data], laidTests := true, laidLooks := .later }
def FnExactStackTextCardSaid : Prop := Claim7.holds Tryd.pinned (.plain (OpenSpec.ofChange fnExactStackTextSpec)) fnExactStackTextCard

/-- THE TIED CARD OF 'laws.FnExactReadStack'. -/
def fnExactReadStackCard : Claim7 := { stood := { row := fnExactReadStackRow, standIns := [], harness := (true, "f645ca43b7b0b99a4af43489260facf7a1f2ae34a61079aa28981ce156c9824d"), looks := true }, kinds := [], alts := [], laidByText := true, laidKinds := [.data, .data, .data, .data, .sentinel, .sentinel, .pinned], laidTests := true, laidLooks := .later }
def FnExactReadStackCardSaid : Prop := Claim7.holds Tryd.pinned (.plain (OpenSpec.ofChange fnExactReadStackSpec)) fnExactReadStackCard

/-- THE SECOND FORM's CARD OF 'laws.FnExactDigitsText'. -/
def fnExactDigitsTextUptoCard : Claim7 := { stood := { row := fnExactDigitsTextUptoRow, standIns := [], harness := (true, "f645ca43b7b0b99a4af43489260facf7a1f2ae34a61079aa28981ce156c9824d"), looks := true }, kinds := [], alts := [], laidByText := true, laidKinds := [.data, .data, .data], laidTests := true, laidLooks := .later }
def FnExactDigitsTextUptoCardSaid : Prop := Claim7.holds Tryd.pinned (.plain (OpenSpec.upto fnExactDigitsTextSpec)) fnExactDigitsTextUptoCard

/-- THE SECOND FORM's CARD OF 'laws.FnExactReadDigits'. -/
def fnExactReadDigitsUptoCard : Claim7 := { stood := { row := fnExactReadDigitsUptoRow, standIns := [], harness := (true, "f645ca43b7b0b99a4af43489260facf7a1f2ae34a61079aa28981ce156c9824d"), looks := true }, kinds := [], alts := [], laidByText := true, laidKinds := [.data, .data, .data, .data, .sentinel, .sentinel, .pinned], laidTests := true, laidLooks := .later }
def FnExactReadDigitsUptoCardSaid : Prop := Claim7.holds Tryd.pinned (.plain (OpenSpec.upto fnExactReadDigitsSpec)) fnExactReadDigitsUptoCard

/-- THE SECOND FORM's CARD OF 'laws.FnExactStackText'. -/
def fnExactStackTextUptoCard : Claim7 := { stood := { row := fnExactStackTextUptoRow, standIns := [], harness := (true, "f645ca43b7b0b99a4af43489260facf7a1f2ae34a61079aa28981ce156c9824d"), looks := true }, kinds := [], alts := [], laidByText := true, laidKinds := [.data, .data, .data], laidTests := true, laidLooks := .later }
def FnExactStackTextUptoCardSaid : Prop := Claim7.holds Tryd.pinned (.plain (OpenSpec.upto fnExactStackTextSpec)) fnExactStackTextUptoCard

/-- THE SECOND FORM's CARD OF 'laws.FnExactReadStack'. -/
def fnExactReadStackUptoCard : Claim7 := { stood := { row := fnExactReadStackUptoRow, standIns := [], harness := (true, "f645ca43b7b0b99a4af43489260facf7a1f2ae34a61079aa28981ce156c9824d"), looks := true }, kinds := [], alts := [], laidByText := true, laidKinds := [.data, .data, .data, .data, .sentinel, .sentinel, .pinned], laidTests := true, laidLooks := .later }
def FnExactReadStackUptoCardSaid : Prop := Claim7.holds Tryd.pinned (.plain (OpenSpec.upto fnExactReadStackSpec)) fnExactReadStackUptoCard
end Rows
end Go.Proofs.YtfbhpikjhidncaaDoor
