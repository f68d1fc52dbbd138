/-
  No cell of these rows narrows 'for every input' (looked for: loops, veiled, ifaces, maps, wideKeys, modest, calm, conditions, laid).
  DERIVED. THE GIVEN ROWS OF THIS SEAT. 10 by the template 'for every input the law returns true; each argument reads behind the call as it read before'; 0 by the template 'total and deterministic' (their statements: YtgfdfnlbkljgeaaTotals.lean).
  GIVEN WITH THE SEED: the statements are not yours to turn. If you find one false, say at which input.
  Laid BY PROGRAM, IN A SANDBOX (cutbox-rows.mjs): the forced cells as the released guide's own fill.sh prints them over the translation 0196fdf96f6dceab… (all of the seat's roots in one cut). By AI agents, Wed Nov 11 2026. No macro, syntax, notation, axiom, sorry.
-/
import Derived.Test.YtgfdfnlbkljgeaaChecked
import GoSem.Claim
import GoSem.ClaimJoined
import GoSem.ClaimMapViews
import Derived.JoinedTies
import Derived.KernelRfl
namespace Go.Proofs.Ytgfdfnlbkljgeaa
/- THE CELL 'sum', in the pinned program and in every row, IS THE sha256 OF THE DUMP (.gsa) THAT YtgfdfnlbkljgeaaProg.lean LOADS. Nothing in Lean hashes anything: it is a label: what it is worth is what the hold of that sum in a sandbox is worth. -/
noncomputable def Try.pinned : Pinned := { name := "ytgfdfnlbkljgeaa", sum := "0196fdf96f6dceab0aca860e84574701fb4f334854cfa251bd17171b14194799", checked := Try.checked }
namespace Rows
def none {H : Type} : Left H := { results := [], args := [] }

/-- 'laws.FnExactValidPhoto': WHATEVER THE INPUT: true; the input reads as it did. -/
def fnExactValidPhotoSpec : ChangeSpec := { name := "fnExactValidPhoto", fn := fun _ => fun
  | [d1, d2] => { results := [.lit (.bool true)], args := [d1, d2] }
  | _ => none }
def fnExactValidPhotoRow : OpenClaim := { program := "ytgfdfnlbkljgeaa", sum := "0196fdf96f6dceab0aca860e84574701fb4f334854cfa251bd17171b14194799", func := "loop.example/g01278/laws.FnExactValidPhoto", spec := "fnExactValidPhoto", apart := false }
def FnExactValidPhotoSaid : Prop := fnExactValidPhotoRow.holds Try.pinned (OpenSpec.ofChange fnExactValidPhotoSpec)

/-- ITS FALSE NEIGHBOUR: 'it returns false'. Refute it at one input. -/
def fnExactValidPhotoWrong : ChangeSpec := { name := "fnExactValidPhoto", fn := fun _ => fun
  | [d1, d2] => { results := [.lit (.bool false)], args := [d1, d2] }
  | _ => none }
def FnExactValidPhotoWrongFalsely : Prop := fnExactValidPhotoRow.holds Try.pinned (OpenSpec.ofChange fnExactValidPhotoWrong)

/-- 'laws.FnExactPhotoOf': WHATEVER THE INPUT: true; the input reads as it did. -/
def fnExactPhotoOfSpec : ChangeSpec := { name := "fnExactPhotoOf", fn := fun _ => fun
  | [d1, d2] => { results := [.lit (.bool true)], args := [d1, d2] }
  | _ => none }
def fnExactPhotoOfRow : OpenClaim := { program := "ytgfdfnlbkljgeaa", sum := "0196fdf96f6dceab0aca860e84574701fb4f334854cfa251bd17171b14194799", func := "loop.example/g01278/laws.FnExactPhotoOf", spec := "fnExactPhotoOf", apart := false }
def FnExactPhotoOfSaid : Prop := fnExactPhotoOfRow.holds Try.pinned (OpenSpec.ofChange fnExactPhotoOfSpec)

/-- ITS FALSE NEIGHBOUR: 'it returns false'. Refute it at one input. -/
def fnExactPhotoOfWrong : ChangeSpec := { name := "fnExactPhotoOf", fn := fun _ => fun
  | [d1, d2] => { results := [.lit (.bool false)], args := [d1, d2] }
  | _ => none }
def FnExactPhotoOfWrongFalsely : Prop := fnExactPhotoOfRow.holds Try.pinned (OpenSpec.ofChange fnExactPhotoOfWrong)

/-- 'laws.FnExactBlankPhoto': WHATEVER THE INPUT: true; the input reads as it did. -/
def fnExactBlankPhotoSpec : ChangeSpec := { name := "fnExactBlankPhoto", fn := fun _ => fun
  | [d] => { results := [.lit (.bool true)], args := [d] }
  | _ => none }
def fnExactBlankPhotoRow : OpenClaim := { program := "ytgfdfnlbkljgeaa", sum := "0196fdf96f6dceab0aca860e84574701fb4f334854cfa251bd17171b14194799", func := "loop.example/g01278/laws.FnExactBlankPhoto", spec := "fnExactBlankPhoto", apart := false }
def FnExactBlankPhotoSaid : Prop := fnExactBlankPhotoRow.holds Try.pinned (OpenSpec.ofChange fnExactBlankPhotoSpec)

/-- ITS FALSE NEIGHBOUR: 'it returns false'. Refute it at one input. -/
def fnExactBlankPhotoWrong : ChangeSpec := { name := "fnExactBlankPhoto", fn := fun _ => fun
  | [d] => { results := [.lit (.bool false)], args := [d] }
  | _ => none }
def FnExactBlankPhotoWrongFalsely : Prop := fnExactBlankPhotoRow.holds Try.pinned (OpenSpec.ofChange fnExactBlankPhotoWrong)

/-- 'laws.FnExactHasDigit': WHATEVER THE INPUT: true; the input reads as it did. -/
def fnExactHasDigitSpec : ChangeSpec := { name := "fnExactHasDigit", fn := fun _ => fun
  | [d1, d2, d3] => { results := [.lit (.bool true)], args := [d1, d2, d3] }
  | _ => none }
def fnExactHasDigitRow : OpenClaim := { program := "ytgfdfnlbkljgeaa", sum := "0196fdf96f6dceab0aca860e84574701fb4f334854cfa251bd17171b14194799", func := "loop.example/g01278/laws.FnExactHasDigit", spec := "fnExactHasDigit", apart := false }
def FnExactHasDigitSaid : Prop := fnExactHasDigitRow.holds Try.pinned (OpenSpec.ofChange fnExactHasDigitSpec)

/-- ITS FALSE NEIGHBOUR: 'it returns false'. Refute it at one input. -/
def fnExactHasDigitWrong : ChangeSpec := { name := "fnExactHasDigit", fn := fun _ => fun
  | [d1, d2, d3] => { results := [.lit (.bool false)], args := [d1, d2, d3] }
  | _ => none }
def FnExactHasDigitWrongFalsely : Prop := fnExactHasDigitRow.holds Try.pinned (OpenSpec.ofChange fnExactHasDigitWrong)

/-- 'laws.FnExactWithDigit': WHATEVER THE INPUT: true; the input reads as it did. -/
def fnExactWithDigitSpec : ChangeSpec := { name := "fnExactWithDigit", fn := fun _ => fun
  | [d1, d2, d3, d4, d5] => { results := [.lit (.bool true)], args := [d1, d2, d3, d4, d5] }
  | _ => none }
def fnExactWithDigitRow : OpenClaim := { program := "ytgfdfnlbkljgeaa", sum := "0196fdf96f6dceab0aca860e84574701fb4f334854cfa251bd17171b14194799", func := "loop.example/g01278/laws.FnExactWithDigit", spec := "fnExactWithDigit", apart := false }
def FnExactWithDigitSaid : Prop := fnExactWithDigitRow.holds Try.pinned (OpenSpec.ofChange fnExactWithDigitSpec)

/-- ITS FALSE NEIGHBOUR: 'it returns false'. Refute it at one input. -/
def fnExactWithDigitWrong : ChangeSpec := { name := "fnExactWithDigit", fn := fun _ => fun
  | [d1, d2, d3, d4, d5] => { results := [.lit (.bool false)], args := [d1, d2, d3, d4, d5] }
  | _ => none }
def FnExactWithDigitWrongFalsely : Prop := fnExactWithDigitRow.holds Try.pinned (OpenSpec.ofChange fnExactWithDigitWrong)

/-- 'laws.FnExactChoicesOf': WHATEVER THE INPUT: true; the input reads as it did. -/
def fnExactChoicesOfSpec : ChangeSpec := { name := "fnExactChoicesOf", fn := fun _ => fun
  | [d1, d2] => { results := [.lit (.bool true)], args := [d1, d2] }
  | _ => none }
def fnExactChoicesOfRow : OpenClaim := { program := "ytgfdfnlbkljgeaa", sum := "0196fdf96f6dceab0aca860e84574701fb4f334854cfa251bd17171b14194799", func := "loop.example/g01278/laws.FnExactChoicesOf", spec := "fnExactChoicesOf", apart := false }
def FnExactChoicesOfSaid : Prop := fnExactChoicesOfRow.holds Try.pinned (OpenSpec.ofChange fnExactChoicesOfSpec)

/-- ITS FALSE NEIGHBOUR: 'it returns false'. Refute it at one input. -/
def fnExactChoicesOfWrong : ChangeSpec := { name := "fnExactChoicesOf", fn := fun _ => fun
  | [d1, d2] => { results := [.lit (.bool false)], args := [d1, d2] }
  | _ => none }
def FnExactChoicesOfWrongFalsely : Prop := fnExactChoicesOfRow.holds Try.pinned (OpenSpec.ofChange fnExactChoicesOfWrong)

/-- 'laws.FnExactShows': WHATEVER THE INPUT: true; the input reads as it did. -/
def fnExactShowsSpec : ChangeSpec := { name := "fnExactShows", fn := fun _ => fun
  | [d1, d2, d3] => { results := [.lit (.bool true)], args := [d1, d2, d3] }
  | _ => none }
def fnExactShowsRow : OpenClaim := { program := "ytgfdfnlbkljgeaa", sum := "0196fdf96f6dceab0aca860e84574701fb4f334854cfa251bd17171b14194799", func := "loop.example/g01278/laws.FnExactShows", spec := "fnExactShows", apart := false }
def FnExactShowsSaid : Prop := fnExactShowsRow.holds Try.pinned (OpenSpec.ofChange fnExactShowsSpec)

/-- ITS FALSE NEIGHBOUR: 'it returns false'. Refute it at one input. -/
def fnExactShowsWrong : ChangeSpec := { name := "fnExactShows", fn := fun _ => fun
  | [d1, d2, d3] => { results := [.lit (.bool false)], args := [d1, d2, d3] }
  | _ => none }
def FnExactShowsWrongFalsely : Prop := fnExactShowsRow.holds Try.pinned (OpenSpec.ofChange fnExactShowsWrong)

/-- 'laws.FnExactCountIn': WHATEVER THE INPUT: true; the input reads as it did. -/
def fnExactCountInSpec : ChangeSpec := { name := "fnExactCountIn", fn := fun _ => fun
  | [d1, d2, d3, d4] => { results := [.lit (.bool true)], args := [d1, d2, d3, d4] }
  | _ => none }
def fnExactCountInRow : OpenClaim := { program := "ytgfdfnlbkljgeaa", sum := "0196fdf96f6dceab0aca860e84574701fb4f334854cfa251bd17171b14194799", func := "loop.example/g01278/laws.FnExactCountIn", spec := "fnExactCountIn", unfollowed := true, recurses := true, apart := false }
def FnExactCountInSaid : Prop := fnExactCountInRow.holds Try.pinned (OpenSpec.ofChange fnExactCountInSpec)

/-- ITS FALSE NEIGHBOUR: 'it returns false'. Refute it at one input. -/
def fnExactCountInWrong : ChangeSpec := { name := "fnExactCountIn", fn := fun _ => fun
  | [d1, d2, d3, d4] => { results := [.lit (.bool false)], args := [d1, d2, d3, d4] }
  | _ => none }
def FnExactCountInWrongFalsely : Prop := fnExactCountInRow.holds Try.pinned (OpenSpec.ofChange fnExactCountInWrong)

/-- 'laws.FnExactMeetPhotos': WHATEVER THE INPUT: true; the input reads as it did. -/
def fnExactMeetPhotosSpec : ChangeSpec := { name := "fnExactMeetPhotos", fn := fun _ => fun
  | [d1, d2, d3] => { results := [.lit (.bool true)], args := [d1, d2, d3] }
  | _ => none }
def fnExactMeetPhotosRow : OpenClaim := { program := "ytgfdfnlbkljgeaa", sum := "0196fdf96f6dceab0aca860e84574701fb4f334854cfa251bd17171b14194799", func := "loop.example/g01278/laws.FnExactMeetPhotos", spec := "fnExactMeetPhotos", apart := false }
def FnExactMeetPhotosSaid : Prop := fnExactMeetPhotosRow.holds Try.pinned (OpenSpec.ofChange fnExactMeetPhotosSpec)

/-- ITS FALSE NEIGHBOUR: 'it returns false'. Refute it at one input. -/
def fnExactMeetPhotosWrong : ChangeSpec := { name := "fnExactMeetPhotos", fn := fun _ => fun
  | [d1, d2, d3] => { results := [.lit (.bool false)], args := [d1, d2, d3] }
  | _ => none }
def FnExactMeetPhotosWrongFalsely : Prop := fnExactMeetPhotosRow.holds Try.pinned (OpenSpec.ofChange fnExactMeetPhotosWrong)

/-- 'laws.FnExactJoinPhotos': WHATEVER THE INPUT: true; the input reads as it did. -/
def fnExactJoinPhotosSpec : ChangeSpec := { name := "fnExactJoinPhotos", fn := fun _ => fun
  | [d1, d2, d3] => { results := [.lit (.bool true)], args := [d1, d2, d3] }
  | _ => none }
def fnExactJoinPhotosRow : OpenClaim := { program := "ytgfdfnlbkljgeaa", sum := "0196fdf96f6dceab0aca860e84574701fb4f334854cfa251bd17171b14194799", func := "loop.example/g01278/laws.FnExactJoinPhotos", spec := "fnExactJoinPhotos", apart := false }
def FnExactJoinPhotosSaid : Prop := fnExactJoinPhotosRow.holds Try.pinned (OpenSpec.ofChange fnExactJoinPhotosSpec)

/-- ITS FALSE NEIGHBOUR: 'it returns false'. Refute it at one input. -/
def fnExactJoinPhotosWrong : ChangeSpec := { name := "fnExactJoinPhotos", fn := fun _ => fun
  | [d1, d2, d3] => { results := [.lit (.bool false)], args := [d1, d2, d3] }
  | _ => none }
def FnExactJoinPhotosWrongFalsely : Prop := fnExactJoinPhotosRow.holds Try.pinned (OpenSpec.ofChange fnExactJoinPhotosWrong)

/- THE SECOND FORM. 'bulk': how many values and letters a reading holds, each counted each time it is reached (what is shared counts as often as it is met; a slice's spare places count too). A statement '..UptoSaid' is the law's where the arguments, and the package variables that the reading takes, are together of bulk at most 1048576: NARROWER than '..Said'. Prove '..Said' where nothing that the law and all that it calls make is longer than what came in: it says more and counts as full. Else prove '..UptoSaid'. A law counts once. -/
mutual
def uptoBulk {H : Type} : DataW H → Nat
  | .lit (.string bytes) => bytes.length + 1
  | .lit _ => 1
  | .nil => 1
  | .ptr d => uptoBulk d + 1
  | .slice elems spare => uptoBulkAll elems + uptoBulkAll spare + 1
  | .agg parts => uptoBulkAll parts + 1
  | .iface _ d => uptoBulk d + 1
  | .map entries => uptoBulkEntries entries + 1
  | .held _ => 1
def uptoBulkAll {H : Type} : List (DataW H) → Nat
  | [] => 0
  | d :: r => uptoBulk d + uptoBulkAll r
def uptoBulkEntries {H : Type} : List (Lit × DataW H) → Nat
  | [] => 0
  | x :: r => uptoBulkEntry x + uptoBulkEntries r
def uptoBulkEntry {H : Type} : Lit × DataW H → Nat
  | (.string bytes, d) => bytes.length + uptoBulk d + 1
  | (_, d) => uptoBulk d + 1
 end
def uptoSmall : (H : Type) → List (DataW H) → Bool := fun _ ds => decide (uptoBulkAll ds ≤ 1048576)
def OpenSpec.upto (s : _root_.Go.ChangeSpec) : _root_.Go.OpenSpec := { _root_.Go.OpenSpec.ofChange s with cond := some uptoSmall }

/-- 'laws.FnExactValidPhoto', WHERE WHAT IT READS IS OF BULK AT MOST 1048576: true; the input reads as it did. -/
def fnExactValidPhotoUptoRow : OpenClaim := { program := "ytgfdfnlbkljgeaa", sum := "0196fdf96f6dceab0aca860e84574701fb4f334854cfa251bd17171b14194799", func := "loop.example/g01278/laws.FnExactValidPhoto", spec := "fnExactValidPhoto", apart := false, narrowed := true }
def FnExactValidPhotoUptoSaid : Prop := fnExactValidPhotoUptoRow.holds Try.pinned (OpenSpec.upto fnExactValidPhotoSpec)

/-- 'laws.FnExactPhotoOf', WHERE WHAT IT READS IS OF BULK AT MOST 1048576: true; the input reads as it did. -/
def fnExactPhotoOfUptoRow : OpenClaim := { program := "ytgfdfnlbkljgeaa", sum := "0196fdf96f6dceab0aca860e84574701fb4f334854cfa251bd17171b14194799", func := "loop.example/g01278/laws.FnExactPhotoOf", spec := "fnExactPhotoOf", apart := false, narrowed := true }
def FnExactPhotoOfUptoSaid : Prop := fnExactPhotoOfUptoRow.holds Try.pinned (OpenSpec.upto fnExactPhotoOfSpec)

/-- 'laws.FnExactBlankPhoto', WHERE WHAT IT READS IS OF BULK AT MOST 1048576: true; the input reads as it did. -/
def fnExactBlankPhotoUptoRow : OpenClaim := { program := "ytgfdfnlbkljgeaa", sum := "0196fdf96f6dceab0aca860e84574701fb4f334854cfa251bd17171b14194799", func := "loop.example/g01278/laws.FnExactBlankPhoto", spec := "fnExactBlankPhoto", apart := false, narrowed := true }
def FnExactBlankPhotoUptoSaid : Prop := fnExactBlankPhotoUptoRow.holds Try.pinned (OpenSpec.upto fnExactBlankPhotoSpec)

/-- 'laws.FnExactHasDigit', WHERE WHAT IT READS IS OF BULK AT MOST 1048576: true; the input reads as it did. -/
def fnExactHasDigitUptoRow : OpenClaim := { program := "ytgfdfnlbkljgeaa", sum := "0196fdf96f6dceab0aca860e84574701fb4f334854cfa251bd17171b14194799", func := "loop.example/g01278/laws.FnExactHasDigit", spec := "fnExactHasDigit", apart := false, narrowed := true }
def FnExactHasDigitUptoSaid : Prop := fnExactHasDigitUptoRow.holds Try.pinned (OpenSpec.upto fnExactHasDigitSpec)

/-- 'laws.FnExactWithDigit', WHERE WHAT IT READS IS OF BULK AT MOST 1048576: true; the input reads as it did. -/
def fnExactWithDigitUptoRow : OpenClaim := { program := "ytgfdfnlbkljgeaa", sum := "0196fdf96f6dceab0aca860e84574701fb4f334854cfa251bd17171b14194799", func := "loop.example/g01278/laws.FnExactWithDigit", spec := "fnExactWithDigit", apart := false, narrowed := true }
def FnExactWithDigitUptoSaid : Prop := fnExactWithDigitUptoRow.holds Try.pinned (OpenSpec.upto fnExactWithDigitSpec)

/-- 'laws.FnExactChoicesOf', WHERE WHAT IT READS IS OF BULK AT MOST 1048576: true; the input reads as it did. -/
def fnExactChoicesOfUptoRow : OpenClaim := { program := "ytgfdfnlbkljgeaa", sum := "0196fdf96f6dceab0aca860e84574701fb4f334854cfa251bd17171b14194799", func := "loop.example/g01278/laws.FnExactChoicesOf", spec := "fnExactChoicesOf", apart := false, narrowed := true }
def FnExactChoicesOfUptoSaid : Prop := fnExactChoicesOfUptoRow.holds Try.pinned (OpenSpec.upto fnExactChoicesOfSpec)

/-- 'laws.FnExactShows', WHERE WHAT IT READS IS OF BULK AT MOST 1048576: true; the input reads as it did. -/
def fnExactShowsUptoRow : OpenClaim := { program := "ytgfdfnlbkljgeaa", sum := "0196fdf96f6dceab0aca860e84574701fb4f334854cfa251bd17171b14194799", func := "loop.example/g01278/laws.FnExactShows", spec := "fnExactShows", apart := false, narrowed := true }
def FnExactShowsUptoSaid : Prop := fnExactShowsUptoRow.holds Try.pinned (OpenSpec.upto fnExactShowsSpec)

/-- 'laws.FnExactCountIn', WHERE WHAT IT READS IS OF BULK AT MOST 1048576: true; the input reads as it did. -/
def fnExactCountInUptoRow : OpenClaim := { program := "ytgfdfnlbkljgeaa", sum := "0196fdf96f6dceab0aca860e84574701fb4f334854cfa251bd17171b14194799", func := "loop.example/g01278/laws.FnExactCountIn", spec := "fnExactCountIn", unfollowed := true, recurses := true, apart := false, narrowed := true }
def FnExactCountInUptoSaid : Prop := fnExactCountInUptoRow.holds Try.pinned (OpenSpec.upto fnExactCountInSpec)

/-- 'laws.FnExactMeetPhotos', WHERE WHAT IT READS IS OF BULK AT MOST 1048576: true; the input reads as it did. -/
def fnExactMeetPhotosUptoRow : OpenClaim := { program := "ytgfdfnlbkljgeaa", sum := "0196fdf96f6dceab0aca860e84574701fb4f334854cfa251bd17171b14194799", func := "loop.example/g01278/laws.FnExactMeetPhotos", spec := "fnExactMeetPhotos", apart := false, narrowed := true }
def FnExactMeetPhotosUptoSaid : Prop := fnExactMeetPhotosUptoRow.holds Try.pinned (OpenSpec.upto fnExactMeetPhotosSpec)

/-- 'laws.FnExactJoinPhotos', WHERE WHAT IT READS IS OF BULK AT MOST 1048576: true; the input reads as it did. -/
def fnExactJoinPhotosUptoRow : OpenClaim := { program := "ytgfdfnlbkljgeaa", sum := "0196fdf96f6dceab0aca860e84574701fb4f334854cfa251bd17171b14194799", func := "loop.example/g01278/laws.FnExactJoinPhotos", spec := "fnExactJoinPhotos", apart := false, narrowed := true }
def FnExactJoinPhotosUptoSaid : Prop := fnExactJoinPhotosUptoRow.holds Try.pinned (OpenSpec.upto fnExactJoinPhotosSpec)

end Rows
end Go.Proofs.Ytgfdfnlbkljgeaa
