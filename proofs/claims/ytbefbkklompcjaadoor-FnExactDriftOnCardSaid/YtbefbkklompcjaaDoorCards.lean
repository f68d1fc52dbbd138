/-
  DERIVED. GIVEN WITH THE SEED: THE CARDS: each row of YtbefbkklompcjaaDoorRows.lean that lists a variable, with what it lists TIED to the program's text (the seventh form; the later family's looks); each row that meets fmt, with fmt's text TOLD by the authors' own Lean function (tested against real Go, not proved from fmt's source: count such statements apart). THE CARD IS WHAT COUNTS. Prove the row's statement (the work); the ties are given (YtbefbkklompcjaaDoorTie.lean); close each card by the builder's one call (the guide's Derived/Test/ToyasCard.lean, 'card_holds'). Laid BY PROGRAM, IN A SANDBOX (cutbox-door.mjs). By AI agents, Wed Nov 11 2026. No macro, syntax, notation, axiom, sorry.
-/
import Derived.Test.YtbefbkklompcjaaDoorRows
import GoSem.ClaimSeven
namespace Go.Proofs.YtbefbkklompcjaaDoor
namespace Rows

/-- THE TIED CARD OF 'laws.FnExactPortionBounds'. -/
def fnExactPortionBoundsCard : Claim7 := { stood := { row := fnExactPortionBoundsRow, standIns := [], harness := (true, "3ebd67f70e18abbf1f0d1b0bbe2e23b352ec3779266ccaaade705951f0a89780"), looks := true }, kinds := [], alts := [], laidByText := true, laidKinds := [.handle], laidTests := true, laidLooks := .later }
def FnExactPortionBoundsCardSaid : Prop := Claim7.holds Tryd.pinned (.plain (OpenSpec.ofChange fnExactPortionBoundsSpec)) fnExactPortionBoundsCard

/-- THE TIED CARD OF 'laws.FnExactFindPortion'. -/
def fnExactFindPortionCard : Claim7 := { stood := { row := fnExactFindPortionRow, standIns := [], harness := (true, "3ebd67f70e18abbf1f0d1b0bbe2e23b352ec3779266ccaaade705951f0a89780"), looks := true }, kinds := [], alts := [], laidByText := true, laidKinds := [.handle], laidTests := true, laidLooks := .later }
def FnExactFindPortionCardSaid : Prop := Claim7.holds Tryd.pinned (.plain (OpenSpec.ofChange fnExactFindPortionSpec)) fnExactFindPortionCard

/-- THE TIED CARD OF 'laws.FnExactCountOn'. -/
def fnExactCountOnCard : Claim7 := { stood := { row := fnExactCountOnRow, standIns := [], harness := (true, "3ebd67f70e18abbf1f0d1b0bbe2e23b352ec3779266ccaaade705951f0a89780"), looks := true }, kinds := [], alts := [], laidByText := true, laidKinds := [.handle], laidTests := true, laidLooks := .later }
def FnExactCountOnCardSaid : Prop := Claim7.holds Tryd.pinned (.plain (OpenSpec.ofChange fnExactCountOnSpec)) fnExactCountOnCard

/-- THE TIED CARD OF 'laws.FnExactDriftOn'. -/
def fnExactDriftOnCard : Claim7 := { stood := { row := fnExactDriftOnRow, standIns := [], harness := (true, "3ebd67f70e18abbf1f0d1b0bbe2e23b352ec3779266ccaaade705951f0a89780"), looks := true }, kinds := [], alts := [], laidByText := true, laidKinds := [.handle], laidTests := true, laidLooks := .later }
def FnExactDriftOnCardSaid : Prop := Claim7.holds Tryd.pinned (.plain (OpenSpec.ofChange fnExactDriftOnSpec)) fnExactDriftOnCard

/-- THE SECOND FORM's CARD OF 'laws.FnExactPortionBounds'. -/
def fnExactPortionBoundsUptoCard : Claim7 := { stood := { row := fnExactPortionBoundsUptoRow, standIns := [], harness := (true, "3ebd67f70e18abbf1f0d1b0bbe2e23b352ec3779266ccaaade705951f0a89780"), looks := true }, kinds := [], alts := [], laidByText := true, laidKinds := [.handle], laidTests := true, laidLooks := .later }
def FnExactPortionBoundsUptoCardSaid : Prop := Claim7.holds Tryd.pinned (.plain (OpenSpec.upto fnExactPortionBoundsSpec)) fnExactPortionBoundsUptoCard

/-- THE SECOND FORM's CARD OF 'laws.FnExactFindPortion'. -/
def fnExactFindPortionUptoCard : Claim7 := { stood := { row := fnExactFindPortionUptoRow, standIns := [], harness := (true, "3ebd67f70e18abbf1f0d1b0bbe2e23b352ec3779266ccaaade705951f0a89780"), looks := true }, kinds := [], alts := [], laidByText := true, laidKinds := [.handle], laidTests := true, laidLooks := .later }
def FnExactFindPortionUptoCardSaid : Prop := Claim7.holds Tryd.pinned (.plain (OpenSpec.upto fnExactFindPortionSpec)) fnExactFindPortionUptoCard

/-- THE SECOND FORM's CARD OF 'laws.FnExactCountOn'. -/
def fnExactCountOnUptoCard : Claim7 := { stood := { row := fnExactCountOnUptoRow, standIns := [], harness := (true, "3ebd67f70e18abbf1f0d1b0bbe2e23b352ec3779266ccaaade705951f0a89780"), looks := true }, kinds := [], alts := [], laidByText := true, laidKinds := [.handle], laidTests := true, laidLooks := .later }
def FnExactCountOnUptoCardSaid : Prop := Claim7.holds Tryd.pinned (.plain (OpenSpec.upto fnExactCountOnSpec)) fnExactCountOnUptoCard

/-- THE SECOND FORM's CARD OF 'laws.FnExactDriftOn'. -/
def fnExactDriftOnUptoCard : Claim7 := { stood := { row := fnExactDriftOnUptoRow, standIns := [], harness := (true, "3ebd67f70e18abbf1f0d1b0bbe2e23b352ec3779266ccaaade705951f0a89780"), looks := true }, kinds := [], alts := [], laidByText := true, laidKinds := [.handle], laidTests := true, laidLooks := .later }
def FnExactDriftOnUptoCardSaid : Prop := Claim7.holds Tryd.pinned (.plain (OpenSpec.upto fnExactDriftOnSpec)) fnExactDriftOnUptoCard
end Rows
end Go.Proofs.YtbefbkklompcjaaDoor
