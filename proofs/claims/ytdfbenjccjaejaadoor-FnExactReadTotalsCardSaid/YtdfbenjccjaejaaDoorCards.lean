/-
  DERIVED. GIVEN WITH THE SEED: THE CARDS: each row of YtdfbenjccjaejaaDoorRows.lean that lists a variable, with what it lists TIED to the program's text (the seventh form; the later family's looks); each row that meets fmt, with fmt's text TOLD by the authors' own Lean function (tested against real Go, not proved from fmt's source: count such statements apart). THE CARD IS WHAT COUNTS. Prove the row's statement (the work); the ties are given (YtdfbenjccjaejaaDoorTie.lean); close each card by the builder's one call (the guide's Derived/Test/ToyasCard.lean, 'card_holds'). Laid BY PROGRAM, IN A SANDBOX (cutbox-door.mjs). By AI agents, Wed Nov 11 2026. No macro, syntax, notation, axiom, sorry.
-/
import Derived.Test.YtdfbenjccjaejaaDoorRows
import GoSem.ClaimSeven
namespace Go.Proofs.YtdfbenjccjaejaaDoor
namespace Rows

/-- THE TIED CARD OF 'laws.FnExactReadTotals'. -/
def fnExactReadTotalsCard : Claim7 := { stood := { row := fnExactReadTotalsRow, standIns := [], harness := (true, "20d4b7216a255711e539128d39cd28a2bdfde2bdc62fac27bcc1d3689753fcbc"), looks := true }, kinds := [], alts := [], laidByText := true, laidKinds := [.data, .data, .data, .data, .sentinel, .sentinel, .pinned], laidTests := true, laidLooks := .later }
def FnExactReadTotalsCardSaid : Prop := Claim7.holds Tryd.pinned (.plain (OpenSpec.ofChange fnExactReadTotalsSpec)) fnExactReadTotalsCard

/-- THE SECOND FORM's CARD OF 'laws.FnExactReadTotals'. -/
def fnExactReadTotalsUptoCard : Claim7 := { stood := { row := fnExactReadTotalsUptoRow, standIns := [], harness := (true, "20d4b7216a255711e539128d39cd28a2bdfde2bdc62fac27bcc1d3689753fcbc"), looks := true }, kinds := [], alts := [], laidByText := true, laidKinds := [.data, .data, .data, .data, .sentinel, .sentinel, .pinned], laidTests := true, laidLooks := .later }
def FnExactReadTotalsUptoCardSaid : Prop := Claim7.holds Tryd.pinned (.plain (OpenSpec.upto fnExactReadTotalsSpec)) fnExactReadTotalsUptoCard
end Rows
end Go.Proofs.YtdfbenjccjaejaaDoor
