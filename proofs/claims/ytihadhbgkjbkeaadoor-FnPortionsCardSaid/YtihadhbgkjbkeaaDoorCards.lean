/-
  DERIVED. GIVEN WITH THE SEED: THE CARDS: each row of YtihadhbgkjbkeaaDoorRows.lean that lists a variable, with what it lists TIED to the program's text (the seventh form; the later family's looks); each row that meets fmt, with fmt's text TOLD by the authors' own Lean function (tested against real Go, not proved from fmt's source: count such statements apart). THE CARD IS WHAT COUNTS. Prove the row's statement (the work); the ties are given (YtihadhbgkjbkeaaDoorTie.lean); close each card by the builder's one call (the guide's Derived/Test/ToyasCard.lean, 'card_holds'). Laid BY PROGRAM, IN A SANDBOX (cutbox-door.mjs). By AI agents, Wed Nov 11 2026. No macro, syntax, notation, axiom, sorry.
-/
import Derived.Test.YtihadhbgkjbkeaaDoorRows
import GoSem.ClaimSeven
namespace Go.Proofs.YtihadhbgkjbkeaaDoor
namespace Rows

/-- THE TIED CARD OF 'laws.FnPortions'. -/
def fnPortionsCard : Claim7 := { stood := { row := fnPortionsRow, standIns := [], harness := (true, "45ed48a2d1bee15168658c9f76c0143989e684679ff76355389c7cfd34f6210d"), looks := true }, kinds := [], alts := [], laidByText := true, laidKinds := [.handle], laidTests := true, laidLooks := .later }
def FnPortionsCardSaid : Prop := Claim7.holds Tryd.pinned (.plain (OpenSpec.ofChange fnPortionsSpec)) fnPortionsCard

/-- THE SECOND FORM's CARD OF 'laws.FnPortions'. -/
def fnPortionsUptoCard : Claim7 := { stood := { row := fnPortionsUptoRow, standIns := [], harness := (true, "45ed48a2d1bee15168658c9f76c0143989e684679ff76355389c7cfd34f6210d"), looks := true }, kinds := [], alts := [], laidByText := true, laidKinds := [.handle], laidTests := true, laidLooks := .later }
def FnPortionsUptoCardSaid : Prop := Claim7.holds Tryd.pinned (.plain (OpenSpec.upto fnPortionsSpec)) fnPortionsUptoCard
end Rows
end Go.Proofs.YtihadhbgkjbkeaaDoor
