/-
  No cell of these rows narrows 'for every input' (looked for: loops, veiled, ifaces, maps, wideKeys, modest, calm, conditions, laid).
  DERIVED. THE GIVEN ROWS OF THIS SEAT. 4 by the template 'for every input the law returns true; each argument reads behind the call as it read before'; 0 by the template 'total and deterministic' (their statements: YtkgldcjbaghapaaTotals.lean).
  GIVEN WITH THE SEED: the statements are not yours to turn. If you find one false, say at which input.
  Laid BY PROGRAM, IN A SANDBOX (cutbox-rows.mjs): the forced cells as the released guide's own fill.sh prints them over the translation fb3b880324c02279… (all of the seat's roots in one cut). By AI agents, Wed Nov 11 2026. No macro, syntax, notation, axiom, sorry.
-/
import Derived.Test.YtkgldcjbaghapaaChecked
import GoSem.Claim
import GoSem.ClaimJoined
import GoSem.ClaimMapViews
import Derived.JoinedTies
import Derived.KernelRfl
namespace Go.Proofs.Ytkgldcjbaghapaa
/- THE CELL 'sum', in the pinned program and in every row, IS THE sha256 OF THE DUMP (.gsa) THAT YtkgldcjbaghapaaProg.lean LOADS. Nothing in Lean hashes anything: it is a label: what it is worth is what the hold of that sum in a sandbox is worth. -/
noncomputable def Try.pinned : Pinned := { name := "ytkgldcjbaghapaa", sum := "fb3b880324c02279be2b1dbbc131bf8c99785c48ab1ef4cc3024485dab381f98", checked := Try.checked }
namespace Rows
def none {H : Type} : Left H := { results := [], args := [] }

/-- 'laws.FnExactEyeReads': WHATEVER THE INPUT: true; the input reads as it did. -/
def fnExactEyeReadsSpec : ChangeSpec := { name := "fnExactEyeReads", fn := fun _ => fun
  | [d1, d2, d3] => { results := [.lit (.bool true)], args := [d1, d2, d3] }
  | _ => none }
def fnExactEyeReadsRow : OpenClaim := { program := "ytkgldcjbaghapaa", sum := "fb3b880324c02279be2b1dbbc131bf8c99785c48ab1ef4cc3024485dab381f98", func := "loop.example/g01278/laws.FnExactEyeReads", spec := "fnExactEyeReads", unfollowed := true, recurses := true, apart := false }
def FnExactEyeReadsSaid : Prop := fnExactEyeReadsRow.holds Try.pinned (OpenSpec.ofChange fnExactEyeReadsSpec)

/-- ITS FALSE NEIGHBOUR: 'it returns false'. Refute it at one input. -/
def fnExactEyeReadsWrong : ChangeSpec := { name := "fnExactEyeReads", fn := fun _ => fun
  | [d1, d2, d3] => { results := [.lit (.bool false)], args := [d1, d2, d3] }
  | _ => none }
def FnExactEyeReadsWrongFalsely : Prop := fnExactEyeReadsRow.holds Try.pinned (OpenSpec.ofChange fnExactEyeReadsWrong)

/-- 'laws.FnExactRightFrom': WHATEVER THE INPUT: true; the input reads as it did. -/
def fnExactRightFromSpec : ChangeSpec := { name := "fnExactRightFrom", fn := fun _ => fun
  | [d1, d2] => { results := [.lit (.bool true)], args := [d1, d2] }
  | _ => none }
def fnExactRightFromRow : OpenClaim := { program := "ytkgldcjbaghapaa", sum := "fb3b880324c02279be2b1dbbc131bf8c99785c48ab1ef4cc3024485dab381f98", func := "loop.example/g01278/laws.FnExactRightFrom", spec := "fnExactRightFrom", unfollowed := true, recurses := true, apart := false }
def FnExactRightFromSaid : Prop := fnExactRightFromRow.holds Try.pinned (OpenSpec.ofChange fnExactRightFromSpec)

/-- ITS FALSE NEIGHBOUR: 'it returns false'. Refute it at one input. -/
def fnExactRightFromWrong : ChangeSpec := { name := "fnExactRightFrom", fn := fun _ => fun
  | [d1, d2] => { results := [.lit (.bool false)], args := [d1, d2] }
  | _ => none }
def FnExactRightFromWrongFalsely : Prop := fnExactRightFromRow.holds Try.pinned (OpenSpec.ofChange fnExactRightFromWrong)

/-- 'laws.FnExactFirstMove': WHATEVER THE INPUT: true; the input reads as it did. -/
def fnExactFirstMoveSpec : ChangeSpec := { name := "fnExactFirstMove", fn := fun _ => fun
  | [d1, d2] => { results := [.lit (.bool true)], args := [d1, d2] }
  | _ => none }
def fnExactFirstMoveRow : OpenClaim := { program := "ytkgldcjbaghapaa", sum := "fb3b880324c02279be2b1dbbc131bf8c99785c48ab1ef4cc3024485dab381f98", func := "loop.example/g01278/laws.FnExactFirstMove", spec := "fnExactFirstMove", unfollowed := true, recurses := true, apart := false }
def FnExactFirstMoveSaid : Prop := fnExactFirstMoveRow.holds Try.pinned (OpenSpec.ofChange fnExactFirstMoveSpec)

/-- ITS FALSE NEIGHBOUR: 'it returns false'. Refute it at one input. -/
def fnExactFirstMoveWrong : ChangeSpec := { name := "fnExactFirstMove", fn := fun _ => fun
  | [d1, d2] => { results := [.lit (.bool false)], args := [d1, d2] }
  | _ => none }
def FnExactFirstMoveWrongFalsely : Prop := fnExactFirstMoveRow.holds Try.pinned (OpenSpec.ofChange fnExactFirstMoveWrong)

/-- 'laws.FnExactBumpParts': WHATEVER THE INPUT: true; the input reads as it did. -/
def fnExactBumpPartsSpec : ChangeSpec := { name := "fnExactBumpParts", fn := fun _ => fun
  | [d1, d2, d3, d4] => { results := [.lit (.bool true)], args := [d1, d2, d3, d4] }
  | _ => none }
def fnExactBumpPartsRow : OpenClaim := { program := "ytkgldcjbaghapaa", sum := "fb3b880324c02279be2b1dbbc131bf8c99785c48ab1ef4cc3024485dab381f98", func := "loop.example/g01278/laws.FnExactBumpParts", spec := "fnExactBumpParts", apart := false }
def FnExactBumpPartsSaid : Prop := fnExactBumpPartsRow.holds Try.pinned (OpenSpec.ofChange fnExactBumpPartsSpec)

/-- ITS FALSE NEIGHBOUR: 'it returns false'. Refute it at one input. -/
def fnExactBumpPartsWrong : ChangeSpec := { name := "fnExactBumpParts", fn := fun _ => fun
  | [d1, d2, d3, d4] => { results := [.lit (.bool false)], args := [d1, d2, d3, d4] }
  | _ => none }
def FnExactBumpPartsWrongFalsely : Prop := fnExactBumpPartsRow.holds Try.pinned (OpenSpec.ofChange fnExactBumpPartsWrong)

/- THE SECOND FORM. 'bulk': how many values and letters a reading holds, each counted each time it is reached (what is shared counts as often as it is met; a slice's spare places count too). A statement '..UptoSaid' is the law's where the arguments, and the package variables that the reading takes, are together of bulk at most 1048576: NARROWER than '..Said'. Prove '..Said' where nothing that the law and all that it calls make is longer than what came in: it says more and counts as full. Else prove '..UptoSaid'. A law counts once. -/
mutual
def uptoBulk {H : Type} : DataW H → Nat
  | .lit (.string bytes) => bytes.length + 1
  | .lit _ => 1
  | .nil => 1
  | .ptr d => uptoBulk d + 1
  | .slice elems spare => uptoBulkAll elems + uptoBulkAll spare + 1
  | .agg parts => uptoBulkAll parts + 1
  | .iface _ d => uptoBulk d + 1
  | .map entries => uptoBulkEntries entries + 1
  | .held _ => 1
def uptoBulkAll {H : Type} : List (DataW H) → Nat
  | [] => 0
  | d :: r => uptoBulk d + uptoBulkAll r
def uptoBulkEntries {H : Type} : List (Lit × DataW H) → Nat
  | [] => 0
  | x :: r => uptoBulkEntry x + uptoBulkEntries r
def uptoBulkEntry {H : Type} : Lit × DataW H → Nat
  | (.string bytes, d) => bytes.length + uptoBulk d + 1
  | (_, d) => uptoBulk d + 1
 end
def uptoSmall : (H : Type) → List (DataW H) → Bool := fun _ ds => decide (uptoBulkAll ds ≤ 1048576)
def OpenSpec.upto (s : _root_.Go.ChangeSpec) : _root_.Go.OpenSpec := { _root_.Go.OpenSpec.ofChange s with cond := some uptoSmall }

/-- 'laws.FnExactEyeReads', WHERE WHAT IT READS IS OF BULK AT MOST 1048576: true; the input reads as it did. -/
def fnExactEyeReadsUptoRow : OpenClaim := { program := "ytkgldcjbaghapaa", sum := "fb3b880324c02279be2b1dbbc131bf8c99785c48ab1ef4cc3024485dab381f98", func := "loop.example/g01278/laws.FnExactEyeReads", spec := "fnExactEyeReads", unfollowed := true, recurses := true, apart := false, narrowed := true }
def FnExactEyeReadsUptoSaid : Prop := fnExactEyeReadsUptoRow.holds Try.pinned (OpenSpec.upto fnExactEyeReadsSpec)

/-- 'laws.FnExactRightFrom', WHERE WHAT IT READS IS OF BULK AT MOST 1048576: true; the input reads as it did. -/
def fnExactRightFromUptoRow : OpenClaim := { program := "ytkgldcjbaghapaa", sum := "fb3b880324c02279be2b1dbbc131bf8c99785c48ab1ef4cc3024485dab381f98", func := "loop.example/g01278/laws.FnExactRightFrom", spec := "fnExactRightFrom", unfollowed := true, recurses := true, apart := false, narrowed := true }
def FnExactRightFromUptoSaid : Prop := fnExactRightFromUptoRow.holds Try.pinned (OpenSpec.upto fnExactRightFromSpec)

/-- 'laws.FnExactFirstMove', WHERE WHAT IT READS IS OF BULK AT MOST 1048576: true; the input reads as it did. -/
def fnExactFirstMoveUptoRow : OpenClaim := { program := "ytkgldcjbaghapaa", sum := "fb3b880324c02279be2b1dbbc131bf8c99785c48ab1ef4cc3024485dab381f98", func := "loop.example/g01278/laws.FnExactFirstMove", spec := "fnExactFirstMove", unfollowed := true, recurses := true, apart := false, narrowed := true }
def FnExactFirstMoveUptoSaid : Prop := fnExactFirstMoveUptoRow.holds Try.pinned (OpenSpec.upto fnExactFirstMoveSpec)

/-- 'laws.FnExactBumpParts', WHERE WHAT IT READS IS OF BULK AT MOST 1048576: true; the input reads as it did. -/
def fnExactBumpPartsUptoRow : OpenClaim := { program := "ytkgldcjbaghapaa", sum := "fb3b880324c02279be2b1dbbc131bf8c99785c48ab1ef4cc3024485dab381f98", func := "loop.example/g01278/laws.FnExactBumpParts", spec := "fnExactBumpParts", apart := false, narrowed := true }
def FnExactBumpPartsUptoSaid : Prop := fnExactBumpPartsUptoRow.holds Try.pinned (OpenSpec.upto fnExactBumpPartsSpec)

end Rows
end Go.Proofs.Ytkgldcjbaghapaa
