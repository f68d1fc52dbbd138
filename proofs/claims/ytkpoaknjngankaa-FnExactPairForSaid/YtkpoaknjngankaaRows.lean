/-
  No cell of these rows narrows 'for every input' (looked for: loops, veiled, ifaces, maps, wideKeys, modest, calm, conditions, laid).
  DERIVED. THE GIVEN ROWS OF THIS SEAT. 9 by the template 'for every input the law returns true; each argument reads behind the call as it read before'; 0 by the template 'total and deterministic' (their statements: YtkpoaknjngankaaTotals.lean).
  GIVEN WITH THE SEED: the statements are not yours to turn. If you find one false, say at which input.
  Laid BY PROGRAM, IN A SANDBOX (cutbox-rows.mjs): the forced cells as the released guide's own fill.sh prints them over the translation 6963f63fdbb5b8da… (all of the seat's roots in one cut). By AI agents, Wed Nov 11 2026. No macro, syntax, notation, axiom, sorry.
-/
import Derived.Test.YtkpoaknjngankaaChecked
import GoSem.Claim
import GoSem.ClaimJoined
import GoSem.ClaimMapViews
import Derived.JoinedTies
import Derived.KernelRfl
namespace Go.Proofs.Ytkpoaknjngankaa
/- THE CELL 'sum', in the pinned program and in every row, IS THE sha256 OF THE DUMP (.gsa) THAT YtkpoaknjngankaaProg.lean LOADS. Nothing in Lean hashes anything: it is a label: what it is worth is what the hold of that sum in a sandbox is worth. -/
noncomputable def Try.pinned : Pinned := { name := "ytkpoaknjngankaa", sum := "6963f63fdbb5b8da8e38017e0237ffd299d1bcdf18193f6126d6c4a7b3704838", checked := Try.checked }
namespace Rows
def none {H : Type} : Left H := { results := [], args := [] }

/-- 'laws.FnExactTermsOf': WHATEVER THE INPUT: true; the input reads as it did. -/
def fnExactTermsOfSpec : ChangeSpec := { name := "fnExactTermsOf", fn := fun _ => fun
  | [d] => { results := [.lit (.bool true)], args := [d] }
  | _ => none }
def fnExactTermsOfRow : OpenClaim := { program := "ytkpoaknjngankaa", sum := "6963f63fdbb5b8da8e38017e0237ffd299d1bcdf18193f6126d6c4a7b3704838", func := "loop.example/g01278/laws.FnExactTermsOf", spec := "fnExactTermsOf", plainKeys := false, apart := false }
def FnExactTermsOfSaid : Prop := fnExactTermsOfRow.holds Try.pinned (OpenSpec.ofChange fnExactTermsOfSpec)

/-- ITS FALSE NEIGHBOUR: 'it returns false'. Refute it at one input. -/
def fnExactTermsOfWrong : ChangeSpec := { name := "fnExactTermsOf", fn := fun _ => fun
  | [d] => { results := [.lit (.bool false)], args := [d] }
  | _ => none }
def FnExactTermsOfWrongFalsely : Prop := fnExactTermsOfRow.holds Try.pinned (OpenSpec.ofChange fnExactTermsOfWrong)

/-- 'laws.FnExactFromTerms': WHATEVER THE INPUT: true; the input reads as it did. -/
def fnExactFromTermsSpec : ChangeSpec := { name := "fnExactFromTerms", fn := fun _ => fun
  | [d] => { results := [.lit (.bool true)], args := [d] }
  | _ => none }
def fnExactFromTermsRow : OpenClaim := { program := "ytkpoaknjngankaa", sum := "6963f63fdbb5b8da8e38017e0237ffd299d1bcdf18193f6126d6c4a7b3704838", func := "loop.example/g01278/laws.FnExactFromTerms", spec := "fnExactFromTerms", plainKeys := false, apart := false }
def FnExactFromTermsSaid : Prop := fnExactFromTermsRow.holds Try.pinned (OpenSpec.ofChange fnExactFromTermsSpec)

/-- ITS FALSE NEIGHBOUR: 'it returns false'. Refute it at one input. -/
def fnExactFromTermsWrong : ChangeSpec := { name := "fnExactFromTerms", fn := fun _ => fun
  | [d] => { results := [.lit (.bool false)], args := [d] }
  | _ => none }
def FnExactFromTermsWrongFalsely : Prop := fnExactFromTermsRow.holds Try.pinned (OpenSpec.ofChange fnExactFromTermsWrong)

/-- 'laws.FnExactConvergentsOf': WHATEVER THE INPUT: true; the input reads as it did. -/
def fnExactConvergentsOfSpec : ChangeSpec := { name := "fnExactConvergentsOf", fn := fun _ => fun
  | [d] => { results := [.lit (.bool true)], args := [d] }
  | _ => none }
def fnExactConvergentsOfRow : OpenClaim := { program := "ytkpoaknjngankaa", sum := "6963f63fdbb5b8da8e38017e0237ffd299d1bcdf18193f6126d6c4a7b3704838", func := "loop.example/g01278/laws.FnExactConvergentsOf", spec := "fnExactConvergentsOf", plainKeys := false, apart := false }
def FnExactConvergentsOfSaid : Prop := fnExactConvergentsOfRow.holds Try.pinned (OpenSpec.ofChange fnExactConvergentsOfSpec)

/-- ITS FALSE NEIGHBOUR: 'it returns false'. Refute it at one input. -/
def fnExactConvergentsOfWrong : ChangeSpec := { name := "fnExactConvergentsOf", fn := fun _ => fun
  | [d] => { results := [.lit (.bool false)], args := [d] }
  | _ => none }
def FnExactConvergentsOfWrongFalsely : Prop := fnExactConvergentsOfRow.holds Try.pinned (OpenSpec.ofChange fnExactConvergentsOfWrong)

/-- 'laws.FnExactFirstOff': WHATEVER THE INPUT: true; the input reads as it did. -/
def fnExactFirstOffSpec : ChangeSpec := { name := "fnExactFirstOff", fn := fun _ => fun
  | [d1, d2, d3] => { results := [.lit (.bool true)], args := [d1, d2, d3] }
  | _ => none }
def fnExactFirstOffRow : OpenClaim := { program := "ytkpoaknjngankaa", sum := "6963f63fdbb5b8da8e38017e0237ffd299d1bcdf18193f6126d6c4a7b3704838", func := "loop.example/g01278/laws.FnExactFirstOff", spec := "fnExactFirstOff", unfollowed := true, recurses := true, plainKeys := false, apart := false }
def FnExactFirstOffSaid : Prop := fnExactFirstOffRow.holds Try.pinned (OpenSpec.ofChange fnExactFirstOffSpec)

/-- ITS FALSE NEIGHBOUR: 'it returns false'. Refute it at one input. -/
def fnExactFirstOffWrong : ChangeSpec := { name := "fnExactFirstOff", fn := fun _ => fun
  | [d1, d2, d3] => { results := [.lit (.bool false)], args := [d1, d2, d3] }
  | _ => none }
def FnExactFirstOffWrongFalsely : Prop := fnExactFirstOffRow.holds Try.pinned (OpenSpec.ofChange fnExactFirstOffWrong)

/-- 'laws.FnExactPairFor': WHATEVER THE INPUT: true; the input reads as it did. -/
def fnExactPairForSpec : ChangeSpec := { name := "fnExactPairFor", fn := fun _ => fun
  | [d] => { results := [.lit (.bool true)], args := [d] }
  | _ => none }
def fnExactPairForRow : OpenClaim := { program := "ytkpoaknjngankaa", sum := "6963f63fdbb5b8da8e38017e0237ffd299d1bcdf18193f6126d6c4a7b3704838", func := "loop.example/g01278/laws.FnExactPairFor", spec := "fnExactPairFor", plainKeys := false, apart := false }
def FnExactPairForSaid : Prop := fnExactPairForRow.holds Try.pinned (OpenSpec.ofChange fnExactPairForSpec)

/-- ITS FALSE NEIGHBOUR: 'it returns false'. Refute it at one input. -/
def fnExactPairForWrong : ChangeSpec := { name := "fnExactPairFor", fn := fun _ => fun
  | [d] => { results := [.lit (.bool false)], args := [d] }
  | _ => none }
def FnExactPairForWrongFalsely : Prop := fnExactPairForRow.holds Try.pinned (OpenSpec.ofChange fnExactPairForWrong)

/-- 'laws.FnExactNearestPair': WHATEVER THE INPUT: true; the input reads as it did. -/
def fnExactNearestPairSpec : ChangeSpec := { name := "fnExactNearestPair", fn := fun _ => fun
  | [d1, d2] => { results := [.lit (.bool true)], args := [d1, d2] }
  | _ => none }
def fnExactNearestPairRow : OpenClaim := { program := "ytkpoaknjngankaa", sum := "6963f63fdbb5b8da8e38017e0237ffd299d1bcdf18193f6126d6c4a7b3704838", func := "loop.example/g01278/laws.FnExactNearestPair", spec := "fnExactNearestPair", unfollowed := true, recurses := true, plainKeys := false, apart := false }
def FnExactNearestPairSaid : Prop := fnExactNearestPairRow.holds Try.pinned (OpenSpec.ofChange fnExactNearestPairSpec)

/-- ITS FALSE NEIGHBOUR: 'it returns false'. Refute it at one input. -/
def fnExactNearestPairWrong : ChangeSpec := { name := "fnExactNearestPair", fn := fun _ => fun
  | [d1, d2] => { results := [.lit (.bool false)], args := [d1, d2] }
  | _ => none }
def FnExactNearestPairWrongFalsely : Prop := fnExactNearestPairRow.holds Try.pinned (OpenSpec.ofChange fnExactNearestPairWrong)

/-- 'laws.FnExactBackTrain': WHATEVER THE INPUT: true; the input reads as it did. -/
def fnExactBackTrainSpec : ChangeSpec := { name := "fnExactBackTrain", fn := fun _ => fun
  | [d] => { results := [.lit (.bool true)], args := [d] }
  | _ => none }
def fnExactBackTrainRow : OpenClaim := { program := "ytkpoaknjngankaa", sum := "6963f63fdbb5b8da8e38017e0237ffd299d1bcdf18193f6126d6c4a7b3704838", func := "loop.example/g01278/laws.FnExactBackTrain", spec := "fnExactBackTrain", unfollowed := true, recurses := true, plainKeys := false, apart := false }
def FnExactBackTrainSaid : Prop := fnExactBackTrainRow.holds Try.pinned (OpenSpec.ofChange fnExactBackTrainSpec)

/-- ITS FALSE NEIGHBOUR: 'it returns false'. Refute it at one input. -/
def fnExactBackTrainWrong : ChangeSpec := { name := "fnExactBackTrain", fn := fun _ => fun
  | [d] => { results := [.lit (.bool false)], args := [d] }
  | _ => none }
def FnExactBackTrainWrongFalsely : Prop := fnExactBackTrainRow.holds Try.pinned (OpenSpec.ofChange fnExactBackTrainWrong)

/-- 'laws.FnExactNearestRatio': WHATEVER THE INPUT: true; the input reads as it did. -/
def fnExactNearestRatioSpec : ChangeSpec := { name := "fnExactNearestRatio", fn := fun _ => fun
  | [d1, d2] => { results := [.lit (.bool true)], args := [d1, d2] }
  | _ => none }
def fnExactNearestRatioRow : OpenClaim := { program := "ytkpoaknjngankaa", sum := "6963f63fdbb5b8da8e38017e0237ffd299d1bcdf18193f6126d6c4a7b3704838", func := "loop.example/g01278/laws.FnExactNearestRatio", spec := "fnExactNearestRatio", unfollowed := true, recurses := true, plainKeys := false, apart := false }
def FnExactNearestRatioSaid : Prop := fnExactNearestRatioRow.holds Try.pinned (OpenSpec.ofChange fnExactNearestRatioSpec)

/-- ITS FALSE NEIGHBOUR: 'it returns false'. Refute it at one input. -/
def fnExactNearestRatioWrong : ChangeSpec := { name := "fnExactNearestRatio", fn := fun _ => fun
  | [d1, d2] => { results := [.lit (.bool false)], args := [d1, d2] }
  | _ => none }
def FnExactNearestRatioWrongFalsely : Prop := fnExactNearestRatioRow.holds Try.pinned (OpenSpec.ofChange fnExactNearestRatioWrong)

/-- 'laws.FnExactTimesRatio': WHATEVER THE INPUT: true; the input reads as it did. -/
def fnExactTimesRatioSpec : ChangeSpec := { name := "fnExactTimesRatio", fn := fun _ => fun
  | [d1, d2] => { results := [.lit (.bool true)], args := [d1, d2] }
  | _ => none }
def fnExactTimesRatioRow : OpenClaim := { program := "ytkpoaknjngankaa", sum := "6963f63fdbb5b8da8e38017e0237ffd299d1bcdf18193f6126d6c4a7b3704838", func := "loop.example/g01278/laws.FnExactTimesRatio", spec := "fnExactTimesRatio", plainKeys := false, apart := false }
def FnExactTimesRatioSaid : Prop := fnExactTimesRatioRow.holds Try.pinned (OpenSpec.ofChange fnExactTimesRatioSpec)

/-- ITS FALSE NEIGHBOUR: 'it returns false'. Refute it at one input. -/
def fnExactTimesRatioWrong : ChangeSpec := { name := "fnExactTimesRatio", fn := fun _ => fun
  | [d1, d2] => { results := [.lit (.bool false)], args := [d1, d2] }
  | _ => none }
def FnExactTimesRatioWrongFalsely : Prop := fnExactTimesRatioRow.holds Try.pinned (OpenSpec.ofChange fnExactTimesRatioWrong)

/- THE SECOND FORM. 'bulk': how many values and letters a reading holds, each counted each time it is reached (what is shared counts as often as it is met; a slice's spare places count too). A statement '..UptoSaid' is the law's where the arguments, and the package variables that the reading takes, are together of bulk at most 1048576: NARROWER than '..Said'. Prove '..Said' where nothing that the law and all that it calls make is longer than what came in: it says more and counts as full. Else prove '..UptoSaid'. A law counts once. -/
mutual
def uptoBulk {H : Type} : DataW H → Nat
  | .lit (.string bytes) => bytes.length + 1
  | .lit _ => 1
  | .nil => 1
  | .ptr d => uptoBulk d + 1
  | .slice elems spare => uptoBulkAll elems + uptoBulkAll spare + 1
  | .agg parts => uptoBulkAll parts + 1
  | .iface _ d => uptoBulk d + 1
  | .map entries => uptoBulkEntries entries + 1
  | .held _ => 1
def uptoBulkAll {H : Type} : List (DataW H) → Nat
  | [] => 0
  | d :: r => uptoBulk d + uptoBulkAll r
def uptoBulkEntries {H : Type} : List (Lit × DataW H) → Nat
  | [] => 0
  | x :: r => uptoBulkEntry x + uptoBulkEntries r
def uptoBulkEntry {H : Type} : Lit × DataW H → Nat
  | (.string bytes, d) => bytes.length + uptoBulk d + 1
  | (_, d) => uptoBulk d + 1
 end
def uptoSmall : (H : Type) → List (DataW H) → Bool := fun _ ds => decide (uptoBulkAll ds ≤ 1048576)
def OpenSpec.upto (s : _root_.Go.ChangeSpec) : _root_.Go.OpenSpec := { _root_.Go.OpenSpec.ofChange s with cond := some uptoSmall }

/-- 'laws.FnExactTermsOf', WHERE WHAT IT READS IS OF BULK AT MOST 1048576: true; the input reads as it did. -/
def fnExactTermsOfUptoRow : OpenClaim := { program := "ytkpoaknjngankaa", sum := "6963f63fdbb5b8da8e38017e0237ffd299d1bcdf18193f6126d6c4a7b3704838", func := "loop.example/g01278/laws.FnExactTermsOf", spec := "fnExactTermsOf", plainKeys := false, apart := false, narrowed := true }
def FnExactTermsOfUptoSaid : Prop := fnExactTermsOfUptoRow.holds Try.pinned (OpenSpec.upto fnExactTermsOfSpec)

/-- 'laws.FnExactFromTerms', WHERE WHAT IT READS IS OF BULK AT MOST 1048576: true; the input reads as it did. -/
def fnExactFromTermsUptoRow : OpenClaim := { program := "ytkpoaknjngankaa", sum := "6963f63fdbb5b8da8e38017e0237ffd299d1bcdf18193f6126d6c4a7b3704838", func := "loop.example/g01278/laws.FnExactFromTerms", spec := "fnExactFromTerms", plainKeys := false, apart := false, narrowed := true }
def FnExactFromTermsUptoSaid : Prop := fnExactFromTermsUptoRow.holds Try.pinned (OpenSpec.upto fnExactFromTermsSpec)

/-- 'laws.FnExactConvergentsOf', WHERE WHAT IT READS IS OF BULK AT MOST 1048576: true; the input reads as it did. -/
def fnExactConvergentsOfUptoRow : OpenClaim := { program := "ytkpoaknjngankaa", sum := "6963f63fdbb5b8da8e38017e0237ffd299d1bcdf18193f6126d6c4a7b3704838", func := "loop.example/g01278/laws.FnExactConvergentsOf", spec := "fnExactConvergentsOf", plainKeys := false, apart := false, narrowed := true }
def FnExactConvergentsOfUptoSaid : Prop := fnExactConvergentsOfUptoRow.holds Try.pinned (OpenSpec.upto fnExactConvergentsOfSpec)

/-- 'laws.FnExactFirstOff', WHERE WHAT IT READS IS OF BULK AT MOST 1048576: true; the input reads as it did. -/
def fnExactFirstOffUptoRow : OpenClaim := { program := "ytkpoaknjngankaa", sum := "6963f63fdbb5b8da8e38017e0237ffd299d1bcdf18193f6126d6c4a7b3704838", func := "loop.example/g01278/laws.FnExactFirstOff", spec := "fnExactFirstOff", unfollowed := true, recurses := true, plainKeys := false, apart := false, narrowed := true }
def FnExactFirstOffUptoSaid : Prop := fnExactFirstOffUptoRow.holds Try.pinned (OpenSpec.upto fnExactFirstOffSpec)

/-- 'laws.FnExactPairFor', WHERE WHAT IT READS IS OF BULK AT MOST 1048576: true; the input reads as it did. -/
def fnExactPairForUptoRow : OpenClaim := { program := "ytkpoaknjngankaa", sum := "6963f63fdbb5b8da8e38017e0237ffd299d1bcdf18193f6126d6c4a7b3704838", func := "loop.example/g01278/laws.FnExactPairFor", spec := "fnExactPairFor", plainKeys := false, apart := false, narrowed := true }
def FnExactPairForUptoSaid : Prop := fnExactPairForUptoRow.holds Try.pinned (OpenSpec.upto fnExactPairForSpec)

/-- 'laws.FnExactNearestPair', WHERE WHAT IT READS IS OF BULK AT MOST 1048576: true; the input reads as it did. -/
def fnExactNearestPairUptoRow : OpenClaim := { program := "ytkpoaknjngankaa", sum := "6963f63fdbb5b8da8e38017e0237ffd299d1bcdf18193f6126d6c4a7b3704838", func := "loop.example/g01278/laws.FnExactNearestPair", spec := "fnExactNearestPair", unfollowed := true, recurses := true, plainKeys := false, apart := false, narrowed := true }
def FnExactNearestPairUptoSaid : Prop := fnExactNearestPairUptoRow.holds Try.pinned (OpenSpec.upto fnExactNearestPairSpec)

/-- 'laws.FnExactBackTrain', WHERE WHAT IT READS IS OF BULK AT MOST 1048576: true; the input reads as it did. -/
def fnExactBackTrainUptoRow : OpenClaim := { program := "ytkpoaknjngankaa", sum := "6963f63fdbb5b8da8e38017e0237ffd299d1bcdf18193f6126d6c4a7b3704838", func := "loop.example/g01278/laws.FnExactBackTrain", spec := "fnExactBackTrain", unfollowed := true, recurses := true, plainKeys := false, apart := false, narrowed := true }
def FnExactBackTrainUptoSaid : Prop := fnExactBackTrainUptoRow.holds Try.pinned (OpenSpec.upto fnExactBackTrainSpec)

/-- 'laws.FnExactNearestRatio', WHERE WHAT IT READS IS OF BULK AT MOST 1048576: true; the input reads as it did. -/
def fnExactNearestRatioUptoRow : OpenClaim := { program := "ytkpoaknjngankaa", sum := "6963f63fdbb5b8da8e38017e0237ffd299d1bcdf18193f6126d6c4a7b3704838", func := "loop.example/g01278/laws.FnExactNearestRatio", spec := "fnExactNearestRatio", unfollowed := true, recurses := true, plainKeys := false, apart := false, narrowed := true }
def FnExactNearestRatioUptoSaid : Prop := fnExactNearestRatioUptoRow.holds Try.pinned (OpenSpec.upto fnExactNearestRatioSpec)

/-- 'laws.FnExactTimesRatio', WHERE WHAT IT READS IS OF BULK AT MOST 1048576: true; the input reads as it did. -/
def fnExactTimesRatioUptoRow : OpenClaim := { program := "ytkpoaknjngankaa", sum := "6963f63fdbb5b8da8e38017e0237ffd299d1bcdf18193f6126d6c4a7b3704838", func := "loop.example/g01278/laws.FnExactTimesRatio", spec := "fnExactTimesRatio", plainKeys := false, apart := false, narrowed := true }
def FnExactTimesRatioUptoSaid : Prop := fnExactTimesRatioUptoRow.holds Try.pinned (OpenSpec.upto fnExactTimesRatioSpec)

end Rows
end Go.Proofs.Ytkpoaknjngankaa
