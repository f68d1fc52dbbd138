/-
  DERIVED. GIVEN WITH THE SEED: THE CARDS: each row of YtocaogkbnlicjaaDoorRows.lean that lists a variable, with what it lists TIED to the program's text (the seventh form; the later family's looks); each row that meets fmt, with fmt's text TOLD by the authors' own Lean function (tested against real Go, not proved from fmt's source: count such statements apart). THE CARD IS WHAT COUNTS. Prove the row's statement (the work); the ties are given (YtocaogkbnlicjaaDoorTie.lean); close each card by the builder's one call (the guide's Derived/Test/ToyasCard.lean, 'card_holds'). Laid BY PROGRAM, IN A SANDBOX (cutbox-door.mjs). By AI agents, Wed Nov 11 2026. No macro, syntax, notation, axiom, sorry.
-/
import Derived.Test.YtocaogkbnlicjaaDoorRows
import GoSem.ClaimSeven
namespace Go.Proofs.YtocaogkbnlicjaaDoor
namespace Rows

/-- THE TIED CARD OF 'laws.FnExactMotionText'. -/
def fnExactMotionTextCard : Claim7 := { stood := { row := fnExactMotionTextRow, standIns := [], harness := (true, "ec82b73a1aad565fdcd837988362dd925db046358de098646e5d6c8cdd5c6847"), looks := true }, kinds := [], alts := [], laidByText := true, laidKinds := [.data, .data, .data], laidTests := true, laidLooks := .later }
def FnExactMotionTextCardSaid : Prop := Claim7.holds Tryd.pinned (.plain (OpenSpec.ofChange fnExactMotionTextSpec)) fnExactMotionTextCard

/-- THE TIED CARD OF 'laws.FnExactLogText'. -/
def fnExactLogTextCard : Claim7 := { stood := { row := fnExactLogTextRow, standIns := [], harness := (true, "ec82b73a1aad565fdcd837988362dd925db046358de098646e5d6c8cdd5c6847"), looks := true }, kinds := [], alts := [], laidByText := true, laidKinds := [.data, .data, .data], laidTests := true, laidLooks := .later }
def FnExactLogTextCardSaid : Prop := Claim7.holds Tryd.pinned (.plain (OpenSpec.ofChange fnExactLogTextSpec)) fnExactLogTextCard

/-- THE TIED CARD OF 'laws.FnExactPhotoText'. -/
def fnExactPhotoTextCard : Claim7 := { stood := { row := fnExactPhotoTextRow, standIns := [], harness := (true, "ec82b73a1aad565fdcd837988362dd925db046358de098646e5d6c8cdd5c6847"), looks := true }, kinds := [], alts := [], laidByText := true, laidKinds := [.data, .data, .data], laidTests := true, laidLooks := .later }
def FnExactPhotoTextCardSaid : Prop := Claim7.holds Tryd.pinned (.plain (OpenSpec.ofChange fnExactPhotoTextSpec)) fnExactPhotoTextCard

/-- THE TIED CARD OF 'laws.FnExactActsText'. -/
def fnExactActsTextCard : Claim7 := { stood := { row := fnExactActsTextRow, standIns := [], harness := (true, "ec82b73a1aad565fdcd837988362dd925db046358de098646e5d6c8cdd5c6847"), looks := true }, kinds := [], alts := [], laidByText := true, laidKinds := [.data, .data, .data, .sentinel, .sentinel], laidTests := true, laidLooks := .later }
def FnExactActsTextCardSaid : Prop := Claim7.holds Tryd.pinned (.plain (OpenSpec.ofChange fnExactActsTextSpec)) fnExactActsTextCard

/-- THE SECOND FORM's CARD OF 'laws.FnExactMotionText'. -/
def fnExactMotionTextUptoCard : Claim7 := { stood := { row := fnExactMotionTextUptoRow, standIns := [], harness := (true, "ec82b73a1aad565fdcd837988362dd925db046358de098646e5d6c8cdd5c6847"), looks := true }, kinds := [], alts := [], laidByText := true, laidKinds := [.data, .data, .data], laidTests := true, laidLooks := .later }
def FnExactMotionTextUptoCardSaid : Prop := Claim7.holds Tryd.pinned (.plain (OpenSpec.upto fnExactMotionTextSpec)) fnExactMotionTextUptoCard

/-- THE SECOND FORM's CARD OF 'laws.FnExactLogText'. -/
def fnExactLogTextUptoCard : Claim7 := { stood := { row := fnExactLogTextUptoRow, standIns := [], harness := (true, "ec82b73a1aad565fdcd837988362dd925db046358de098646e5d6c8cdd5c6847"), looks := true }, kinds := [], alts := [], laidByText := true, laidKinds := [.data, .data, .data], laidTests := true, laidLooks := .later }
def FnExactLogTextUptoCardSaid : Prop := Claim7.holds Tryd.pinned (.plain (OpenSpec.upto fnExactLogTextSpec)) fnExactLogTextUptoCard

/-- THE SECOND FORM's CARD OF 'laws.FnExactPhotoText'. -/
def fnExactPhotoTextUptoCard : Claim7 := { stood := { row := fnExactPhotoTextUptoRow, standIns := [], harness := (true, "ec82b73a1aad565fdcd837988362dd925db046358de098646e5d6c8cdd5c6847"), looks := true }, kinds := [], alts := [], laidByText := true, laidKinds := [.data, .data, .data], laidTests := true, laidLooks := .later }
def FnExactPhotoTextUptoCardSaid : Prop := Claim7.holds Tryd.pinned (.plain (OpenSpec.upto fnExactPhotoTextSpec)) fnExactPhotoTextUptoCard

/-- THE SECOND FORM's CARD OF 'laws.FnExactActsText'. -/
def fnExactActsTextUptoCard : Claim7 := { stood := { row := fnExactActsTextUptoRow, standIns := [], harness := (true, "ec82b73a1aad565fdcd837988362dd925db046358de098646e5d6c8cdd5c6847"), looks := true }, kinds := [], alts := [], laidByText := true, laidKinds := [.data, .data, .data, .sentinel, .sentinel], laidTests := true, laidLooks := .later }
def FnExactActsTextUptoCardSaid : Prop := Claim7.holds Tryd.pinned (.plain (OpenSpec.upto fnExactActsTextSpec)) fnExactActsTextUptoCard
end Rows
end Go.Proofs.YtocaogkbnlicjaaDoor
