/-
  No cell of these rows narrows 'for every input' (looked for: loops, veiled, ifaces, maps, wideKeys, modest, calm, conditions, laid).
  DERIVED. THE GIVEN ROWS OF THIS SEAT. 4 by the template 'for every input the law returns true; each argument reads behind the call as it read before'; 0 by the template 'total and deterministic' (their statements: YteangabkpaamcaaTotals.lean).
  GIVEN WITH THE SEED: the statements are not yours to turn. If you find one false, say at which input.
  Laid BY PROGRAM, IN A SANDBOX (cutbox-rows.mjs): the forced cells as the released guide's own fill.sh prints them over the translation 0e35bf54f59edd50… (all of the seat's roots in one cut). By AI agents, Wed Nov 11 2026. No macro, syntax, notation, axiom, sorry.
-/
import Derived.Test.YteangabkpaamcaaChecked
import GoSem.Claim
import GoSem.ClaimJoined
import GoSem.ClaimMapViews
import Derived.JoinedTies
import Derived.KernelRfl
namespace Go.Proofs.Yteangabkpaamcaa
/- THE CELL 'sum', in the pinned program and in every row, IS THE sha256 OF THE DUMP (.gsa) THAT YteangabkpaamcaaProg.lean LOADS. Nothing in Lean hashes anything: it is a label: what it is worth is what the hold of that sum in a sandbox is worth. -/
noncomputable def Try.pinned : Pinned := { name := "yteangabkpaamcaa", sum := "0e35bf54f59edd50be2791574cdab9f30820e51b3c69e6d973b23eac705ade49", checked := Try.checked }
namespace Rows
def none {H : Type} : Left H := { results := [], args := [] }

/-- 'laws.FnExactTimesRatio': WHATEVER THE INPUT: true; the input reads as it did. -/
def fnExactTimesRatioSpec : ChangeSpec := { name := "fnExactTimesRatio", fn := fun _ => fun
  | [d1, d2] => { results := [.lit (.bool true)], args := [d1, d2] }
  | _ => none }
def fnExactTimesRatioRow : OpenClaim := { program := "yteangabkpaamcaa", sum := "0e35bf54f59edd50be2791574cdab9f30820e51b3c69e6d973b23eac705ade49", func := "loop.example/g01278/laws.FnExactTimesRatio", spec := "fnExactTimesRatio", apart := false }
def FnExactTimesRatioSaid : Prop := fnExactTimesRatioRow.holds Try.pinned (OpenSpec.ofChange fnExactTimesRatioSpec)

/-- ITS FALSE NEIGHBOUR: 'it returns false'. Refute it at one input. -/
def fnExactTimesRatioWrong : ChangeSpec := { name := "fnExactTimesRatio", fn := fun _ => fun
  | [d1, d2] => { results := [.lit (.bool false)], args := [d1, d2] }
  | _ => none }
def FnExactTimesRatioWrongFalsely : Prop := fnExactTimesRatioRow.holds Try.pinned (OpenSpec.ofChange fnExactTimesRatioWrong)

/-- 'laws.FnExactBackTrain': WHATEVER THE INPUT: true; the input reads as it did. -/
def fnExactBackTrainSpec : ChangeSpec := { name := "fnExactBackTrain", fn := fun _ => fun
  | [d] => { results := [.lit (.bool true)], args := [d] }
  | _ => none }
def fnExactBackTrainRow : OpenClaim := { program := "yteangabkpaamcaa", sum := "0e35bf54f59edd50be2791574cdab9f30820e51b3c69e6d973b23eac705ade49", func := "loop.example/g01278/laws.FnExactBackTrain", spec := "fnExactBackTrain", unfollowed := true, recurses := true, apart := false }
def FnExactBackTrainSaid : Prop := fnExactBackTrainRow.holds Try.pinned (OpenSpec.ofChange fnExactBackTrainSpec)

/-- ITS FALSE NEIGHBOUR: 'it returns false'. Refute it at one input. -/
def fnExactBackTrainWrong : ChangeSpec := { name := "fnExactBackTrain", fn := fun _ => fun
  | [d] => { results := [.lit (.bool false)], args := [d] }
  | _ => none }
def FnExactBackTrainWrongFalsely : Prop := fnExactBackTrainRow.holds Try.pinned (OpenSpec.ofChange fnExactBackTrainWrong)

/-- 'laws.FnExactTermsOf': WHATEVER THE INPUT: true; the input reads as it did. -/
def fnExactTermsOfSpec : ChangeSpec := { name := "fnExactTermsOf", fn := fun _ => fun
  | [d] => { results := [.lit (.bool true)], args := [d] }
  | _ => none }
def fnExactTermsOfRow : OpenClaim := { program := "yteangabkpaamcaa", sum := "0e35bf54f59edd50be2791574cdab9f30820e51b3c69e6d973b23eac705ade49", func := "loop.example/g01278/laws.FnExactTermsOf", spec := "fnExactTermsOf", apart := false }
def FnExactTermsOfSaid : Prop := fnExactTermsOfRow.holds Try.pinned (OpenSpec.ofChange fnExactTermsOfSpec)

/-- ITS FALSE NEIGHBOUR: 'it returns false'. Refute it at one input. -/
def fnExactTermsOfWrong : ChangeSpec := { name := "fnExactTermsOf", fn := fun _ => fun
  | [d] => { results := [.lit (.bool false)], args := [d] }
  | _ => none }
def FnExactTermsOfWrongFalsely : Prop := fnExactTermsOfRow.holds Try.pinned (OpenSpec.ofChange fnExactTermsOfWrong)

/-- 'laws.FnExactFromTerms': WHATEVER THE INPUT: true; the input reads as it did. -/
def fnExactFromTermsSpec : ChangeSpec := { name := "fnExactFromTerms", fn := fun _ => fun
  | [d] => { results := [.lit (.bool true)], args := [d] }
  | _ => none }
def fnExactFromTermsRow : OpenClaim := { program := "yteangabkpaamcaa", sum := "0e35bf54f59edd50be2791574cdab9f30820e51b3c69e6d973b23eac705ade49", func := "loop.example/g01278/laws.FnExactFromTerms", spec := "fnExactFromTerms", apart := false }
def FnExactFromTermsSaid : Prop := fnExactFromTermsRow.holds Try.pinned (OpenSpec.ofChange fnExactFromTermsSpec)

/-- ITS FALSE NEIGHBOUR: 'it returns false'. Refute it at one input. -/
def fnExactFromTermsWrong : ChangeSpec := { name := "fnExactFromTerms", fn := fun _ => fun
  | [d] => { results := [.lit (.bool false)], args := [d] }
  | _ => none }
def FnExactFromTermsWrongFalsely : Prop := fnExactFromTermsRow.holds Try.pinned (OpenSpec.ofChange fnExactFromTermsWrong)

/- THE SECOND FORM. 'bulk': how many values and letters a reading holds, each counted each time it is reached (what is shared counts as often as it is met; a slice's spare places count too). A statement '..UptoSaid' is the law's where the arguments, and the package variables that the reading takes, are together of bulk at most 1048576: NARROWER than '..Said'. Prove '..Said' where nothing that the law and all that it calls make is longer than what came in: it says more and counts as full. Else prove '..UptoSaid'. A law counts once. -/
mutual
def uptoBulk {H : Type} : DataW H → Nat
  | .lit (.string bytes) => bytes.length + 1
  | .lit _ => 1
  | .nil => 1
  | .ptr d => uptoBulk d + 1
  | .slice elems spare => uptoBulkAll elems + uptoBulkAll spare + 1
  | .agg parts => uptoBulkAll parts + 1
  | .iface _ d => uptoBulk d + 1
  | .map entries => uptoBulkEntries entries + 1
  | .held _ => 1
def uptoBulkAll {H : Type} : List (DataW H) → Nat
  | [] => 0
  | d :: r => uptoBulk d + uptoBulkAll r
def uptoBulkEntries {H : Type} : List (Lit × DataW H) → Nat
  | [] => 0
  | x :: r => uptoBulkEntry x + uptoBulkEntries r
def uptoBulkEntry {H : Type} : Lit × DataW H → Nat
  | (.string bytes, d) => bytes.length + uptoBulk d + 1
  | (_, d) => uptoBulk d + 1
 end
def uptoSmall : (H : Type) → List (DataW H) → Bool := fun _ ds => decide (uptoBulkAll ds ≤ 1048576)
def OpenSpec.upto (s : _root_.Go.ChangeSpec) : _root_.Go.OpenSpec := { _root_.Go.OpenSpec.ofChange s with cond := some uptoSmall }

/-- 'laws.FnExactTimesRatio', WHERE WHAT IT READS IS OF BULK AT MOST 1048576: true; the input reads as it did. -/
def fnExactTimesRatioUptoRow : OpenClaim := { program := "yteangabkpaamcaa", sum := "0e35bf54f59edd50be2791574cdab9f30820e51b3c69e6d973b23eac705ade49", func := "loop.example/g01278/laws.FnExactTimesRatio", spec := "fnExactTimesRatio", apart := false, narrowed := true }
def FnExactTimesRatioUptoSaid : Prop := fnExactTimesRatioUptoRow.holds Try.pinned (OpenSpec.upto fnExactTimesRatioSpec)

/-- 'laws.FnExactBackTrain', WHERE WHAT IT READS IS OF BULK AT MOST 1048576: true; the input reads as it did. -/
def fnExactBackTrainUptoRow : OpenClaim := { program := "yteangabkpaamcaa", sum := "0e35bf54f59edd50be2791574cdab9f30820e51b3c69e6d973b23eac705ade49", func := "loop.example/g01278/laws.FnExactBackTrain", spec := "fnExactBackTrain", unfollowed := true, recurses := true, apart := false, narrowed := true }
def FnExactBackTrainUptoSaid : Prop := fnExactBackTrainUptoRow.holds Try.pinned (OpenSpec.upto fnExactBackTrainSpec)

/-- 'laws.FnExactTermsOf', WHERE WHAT IT READS IS OF BULK AT MOST 1048576: true; the input reads as it did. -/
def fnExactTermsOfUptoRow : OpenClaim := { program := "yteangabkpaamcaa", sum := "0e35bf54f59edd50be2791574cdab9f30820e51b3c69e6d973b23eac705ade49", func := "loop.example/g01278/laws.FnExactTermsOf", spec := "fnExactTermsOf", apart := false, narrowed := true }
def FnExactTermsOfUptoSaid : Prop := fnExactTermsOfUptoRow.holds Try.pinned (OpenSpec.upto fnExactTermsOfSpec)

/-- 'laws.FnExactFromTerms', WHERE WHAT IT READS IS OF BULK AT MOST 1048576: true; the input reads as it did. -/
def fnExactFromTermsUptoRow : OpenClaim := { program := "yteangabkpaamcaa", sum := "0e35bf54f59edd50be2791574cdab9f30820e51b3c69e6d973b23eac705ade49", func := "loop.example/g01278/laws.FnExactFromTerms", spec := "fnExactFromTerms", apart := false, narrowed := true }
def FnExactFromTermsUptoSaid : Prop := fnExactFromTermsUptoRow.holds Try.pinned (OpenSpec.upto fnExactFromTermsSpec)

end Rows
end Go.Proofs.Yteangabkpaamcaa
