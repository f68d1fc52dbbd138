/-
  DERIVED. GIVEN WITH THE SEED: THE CARDS: each row of YtjnjaddmjolchaaDoorRows.lean that lists a variable, with what it lists TIED to the program's text (the seventh form; the later family's looks); each row that meets fmt, with fmt's text TOLD by the authors' own Lean function (tested against real Go, not proved from fmt's source: count such statements apart). THE CARD IS WHAT COUNTS. Prove the row's statement (the work); the ties are given (YtjnjaddmjolchaaDoorTie.lean); close each card by the builder's one call (the guide's Derived/Test/ToyasCard.lean, 'card_holds'). Laid BY PROGRAM, IN A SANDBOX (cutbox-door.mjs). By AI agents, Wed Nov 11 2026. No macro, syntax, notation, axiom, sorry.
-/
import Derived.Test.YtjnjaddmjolchaaDoorRows
import GoSem.ClaimSeven
namespace Go.Proofs.YtjnjaddmjolchaaDoor
namespace Rows

/-- THE TIED CARD OF 'laws.FnExactPortionBounds'. -/
def fnExactPortionBoundsCard : Claim7 := { stood := { row := fnExactPortionBoundsRow, standIns := [], harness := (true, "ce6364fa9e565aa1ff05626cc4e91f2c943250d80aa89637e4c50a38b29744ee"), looks := true }, kinds := [], alts := [], laidByText := true, laidKinds := [.handle], laidTests := true, laidLooks := .later }
def FnExactPortionBoundsCardSaid : Prop := Claim7.holds Tryd.pinned (.plain (OpenSpec.ofChange fnExactPortionBoundsSpec)) fnExactPortionBoundsCard

/-- THE TIED CARD OF 'laws.FnExactFindPortion'. -/
def fnExactFindPortionCard : Claim7 := { stood := { row := fnExactFindPortionRow, standIns := [], harness := (true, "ce6364fa9e565aa1ff05626cc4e91f2c943250d80aa89637e4c50a38b29744ee"), looks := true }, kinds := [], alts := [], laidByText := true, laidKinds := [.handle], laidTests := true, laidLooks := .later }
def FnExactFindPortionCardSaid : Prop := Claim7.holds Tryd.pinned (.plain (OpenSpec.ofChange fnExactFindPortionSpec)) fnExactFindPortionCard

/-- THE SECOND FORM's CARD OF 'laws.FnExactPortionBounds'. -/
def fnExactPortionBoundsUptoCard : Claim7 := { stood := { row := fnExactPortionBoundsUptoRow, standIns := [], harness := (true, "ce6364fa9e565aa1ff05626cc4e91f2c943250d80aa89637e4c50a38b29744ee"), looks := true }, kinds := [], alts := [], laidByText := true, laidKinds := [.handle], laidTests := true, laidLooks := .later }
def FnExactPortionBoundsUptoCardSaid : Prop := Claim7.holds Tryd.pinned (.plain (OpenSpec.upto fnExactPortionBoundsSpec)) fnExactPortionBoundsUptoCard

/-- THE SECOND FORM's CARD OF 'laws.FnExactFindPortion'. -/
def fnExactFindPortionUptoCard : Claim7 := { stood := { row := fnExactFindPortionUptoRow, standIns := [], harness := (true, "ce6364fa9e565aa1ff05626cc4e91f2c943250d80aa89637e4c50a38b29744ee"), looks := true }, kinds := [], alts := [], laidByText := true, laidKinds := [.handle], laidTests := true, laidLooks := .later }
def FnExactFindPortionUptoCardSaid : Prop := Claim7.holds Tryd.pinned (.plain (OpenSpec.upto fnExactFindPortionSpec)) fnExactFindPortionUptoCard
end Rows
end Go.Proofs.YtjnjaddmjolchaaDoor
