/-
  No cell of these rows narrows 'for every input' (looked for: loops, veiled, ifaces, maps, wideKeys, modest, calm, conditions, laid).
  DERIVED. THE GIVEN ROWS OF THIS SEAT. 12 by the template 'for every input the law returns true; each argument reads behind the call as it read before'; 0 by the template 'total and deterministic' (their statements: YtgomeeheleiapaaTotals.lean).
  GIVEN WITH THE SEED: the statements are not yours to turn. If you find one false, say at which input.
  Laid BY PROGRAM, IN A SANDBOX (cutbox-rows.mjs): the forced cells as the released guide's own fill.sh prints them over the translation 4f9c2b69e8ba5568… (all of the seat's roots in one cut). By AI agents, Wed Nov 11 2026. No macro, syntax, notation, axiom, sorry.
-/
import Derived.Test.YtgomeeheleiapaaChecked
import GoSem.Claim
import GoSem.ClaimJoined
import GoSem.ClaimMapViews
import Derived.JoinedTies
import Derived.KernelRfl
namespace Go.Proofs.Ytgomeeheleiapaa
/- THE CELL 'sum', in the pinned program and in every row, IS THE sha256 OF THE DUMP (.gsa) THAT YtgomeeheleiapaaProg.lean LOADS. Nothing in Lean hashes anything: it is a label: what it is worth is what the hold of that sum in a sandbox is worth. -/
noncomputable def Try.pinned : Pinned := { name := "ytgomeeheleiapaa", sum := "4f9c2b69e8ba5568436850791e3a70e67915bb88abb45088262ee75de9730efb", checked := Try.checked }
namespace Rows
def none {H : Type} : Left H := { results := [], args := [] }

/-- 'laws.FnExactValidRatio': WHATEVER THE INPUT: true; the input reads as it did. -/
def fnExactValidRatioSpec : ChangeSpec := { name := "fnExactValidRatio", fn := fun _ => fun
  | [d] => { results := [.lit (.bool true)], args := [d] }
  | _ => none }
def fnExactValidRatioRow : OpenClaim := { program := "ytgomeeheleiapaa", sum := "4f9c2b69e8ba5568436850791e3a70e67915bb88abb45088262ee75de9730efb", func := "loop.example/g01278/laws.FnExactValidRatio", spec := "fnExactValidRatio", apart := false }
def FnExactValidRatioSaid : Prop := fnExactValidRatioRow.holds Try.pinned (OpenSpec.ofChange fnExactValidRatioSpec)

/-- ITS FALSE NEIGHBOUR: 'it returns false'. Refute it at one input. -/
def fnExactValidRatioWrong : ChangeSpec := { name := "fnExactValidRatio", fn := fun _ => fun
  | [d] => { results := [.lit (.bool false)], args := [d] }
  | _ => none }
def FnExactValidRatioWrongFalsely : Prop := fnExactValidRatioRow.holds Try.pinned (OpenSpec.ofChange fnExactValidRatioWrong)

/-- 'laws.FnExactMakeRatio': WHATEVER THE INPUT: true; the input reads as it did. -/
def fnExactMakeRatioSpec : ChangeSpec := { name := "fnExactMakeRatio", fn := fun _ => fun
  | [d1, d2] => { results := [.lit (.bool true)], args := [d1, d2] }
  | _ => none }
def fnExactMakeRatioRow : OpenClaim := { program := "ytgomeeheleiapaa", sum := "4f9c2b69e8ba5568436850791e3a70e67915bb88abb45088262ee75de9730efb", func := "loop.example/g01278/laws.FnExactMakeRatio", spec := "fnExactMakeRatio", apart := false }
def FnExactMakeRatioSaid : Prop := fnExactMakeRatioRow.holds Try.pinned (OpenSpec.ofChange fnExactMakeRatioSpec)

/-- ITS FALSE NEIGHBOUR: 'it returns false'. Refute it at one input. -/
def fnExactMakeRatioWrong : ChangeSpec := { name := "fnExactMakeRatio", fn := fun _ => fun
  | [d1, d2] => { results := [.lit (.bool false)], args := [d1, d2] }
  | _ => none }
def FnExactMakeRatioWrongFalsely : Prop := fnExactMakeRatioRow.holds Try.pinned (OpenSpec.ofChange fnExactMakeRatioWrong)

/-- 'laws.FnExactCompareRatios': WHATEVER THE INPUT: true; the input reads as it did. -/
def fnExactCompareRatiosSpec : ChangeSpec := { name := "fnExactCompareRatios", fn := fun _ => fun
  | [d1, d2] => { results := [.lit (.bool true)], args := [d1, d2] }
  | _ => none }
def fnExactCompareRatiosRow : OpenClaim := { program := "ytgomeeheleiapaa", sum := "4f9c2b69e8ba5568436850791e3a70e67915bb88abb45088262ee75de9730efb", func := "loop.example/g01278/laws.FnExactCompareRatios", spec := "fnExactCompareRatios", apart := false }
def FnExactCompareRatiosSaid : Prop := fnExactCompareRatiosRow.holds Try.pinned (OpenSpec.ofChange fnExactCompareRatiosSpec)

/-- ITS FALSE NEIGHBOUR: 'it returns false'. Refute it at one input. -/
def fnExactCompareRatiosWrong : ChangeSpec := { name := "fnExactCompareRatios", fn := fun _ => fun
  | [d1, d2] => { results := [.lit (.bool false)], args := [d1, d2] }
  | _ => none }
def FnExactCompareRatiosWrongFalsely : Prop := fnExactCompareRatiosRow.holds Try.pinned (OpenSpec.ofChange fnExactCompareRatiosWrong)

/-- 'laws.FnExactTimesRatio': WHATEVER THE INPUT: true; the input reads as it did. -/
def fnExactTimesRatioSpec : ChangeSpec := { name := "fnExactTimesRatio", fn := fun _ => fun
  | [d1, d2] => { results := [.lit (.bool true)], args := [d1, d2] }
  | _ => none }
def fnExactTimesRatioRow : OpenClaim := { program := "ytgomeeheleiapaa", sum := "4f9c2b69e8ba5568436850791e3a70e67915bb88abb45088262ee75de9730efb", func := "loop.example/g01278/laws.FnExactTimesRatio", spec := "fnExactTimesRatio", apart := false }
def FnExactTimesRatioSaid : Prop := fnExactTimesRatioRow.holds Try.pinned (OpenSpec.ofChange fnExactTimesRatioSpec)

/-- ITS FALSE NEIGHBOUR: 'it returns false'. Refute it at one input. -/
def fnExactTimesRatioWrong : ChangeSpec := { name := "fnExactTimesRatio", fn := fun _ => fun
  | [d1, d2] => { results := [.lit (.bool false)], args := [d1, d2] }
  | _ => none }
def FnExactTimesRatioWrongFalsely : Prop := fnExactTimesRatioRow.holds Try.pinned (OpenSpec.ofChange fnExactTimesRatioWrong)

/-- 'laws.FnExactValidTrain': WHATEVER THE INPUT: true; the input reads as it did. -/
def fnExactValidTrainSpec : ChangeSpec := { name := "fnExactValidTrain", fn := fun _ => fun
  | [d] => { results := [.lit (.bool true)], args := [d] }
  | _ => none }
def fnExactValidTrainRow : OpenClaim := { program := "ytgomeeheleiapaa", sum := "4f9c2b69e8ba5568436850791e3a70e67915bb88abb45088262ee75de9730efb", func := "loop.example/g01278/laws.FnExactValidTrain", spec := "fnExactValidTrain", unfollowed := true, recurses := true, apart := false }
def FnExactValidTrainSaid : Prop := fnExactValidTrainRow.holds Try.pinned (OpenSpec.ofChange fnExactValidTrainSpec)

/-- ITS FALSE NEIGHBOUR: 'it returns false'. Refute it at one input. -/
def fnExactValidTrainWrong : ChangeSpec := { name := "fnExactValidTrain", fn := fun _ => fun
  | [d] => { results := [.lit (.bool false)], args := [d] }
  | _ => none }
def FnExactValidTrainWrongFalsely : Prop := fnExactValidTrainRow.holds Try.pinned (OpenSpec.ofChange fnExactValidTrainWrong)

/-- 'laws.FnExactSameTrain': WHATEVER THE INPUT: true; the input reads as it did. -/
def fnExactSameTrainSpec : ChangeSpec := { name := "fnExactSameTrain", fn := fun _ => fun
  | [d1, d2] => { results := [.lit (.bool true)], args := [d1, d2] }
  | _ => none }
def fnExactSameTrainRow : OpenClaim := { program := "ytgomeeheleiapaa", sum := "4f9c2b69e8ba5568436850791e3a70e67915bb88abb45088262ee75de9730efb", func := "loop.example/g01278/laws.FnExactSameTrain", spec := "fnExactSameTrain", apart := false }
def FnExactSameTrainSaid : Prop := fnExactSameTrainRow.holds Try.pinned (OpenSpec.ofChange fnExactSameTrainSpec)

/-- ITS FALSE NEIGHBOUR: 'it returns false'. Refute it at one input. -/
def fnExactSameTrainWrong : ChangeSpec := { name := "fnExactSameTrain", fn := fun _ => fun
  | [d1, d2] => { results := [.lit (.bool false)], args := [d1, d2] }
  | _ => none }
def FnExactSameTrainWrongFalsely : Prop := fnExactSameTrainRow.holds Try.pinned (OpenSpec.ofChange fnExactSameTrainWrong)

/-- 'laws.FnExactRatioOf': WHATEVER THE INPUT: true; the input reads as it did. -/
def fnExactRatioOfSpec : ChangeSpec := { name := "fnExactRatioOf", fn := fun _ => fun
  | [d] => { results := [.lit (.bool true)], args := [d] }
  | _ => none }
def fnExactRatioOfRow : OpenClaim := { program := "ytgomeeheleiapaa", sum := "4f9c2b69e8ba5568436850791e3a70e67915bb88abb45088262ee75de9730efb", func := "loop.example/g01278/laws.FnExactRatioOf", spec := "fnExactRatioOf", unfollowed := true, recurses := true, apart := false }
def FnExactRatioOfSaid : Prop := fnExactRatioOfRow.holds Try.pinned (OpenSpec.ofChange fnExactRatioOfSpec)

/-- ITS FALSE NEIGHBOUR: 'it returns false'. Refute it at one input. -/
def fnExactRatioOfWrong : ChangeSpec := { name := "fnExactRatioOf", fn := fun _ => fun
  | [d] => { results := [.lit (.bool false)], args := [d] }
  | _ => none }
def FnExactRatioOfWrongFalsely : Prop := fnExactRatioOfRow.holds Try.pinned (OpenSpec.ofChange fnExactRatioOfWrong)

/-- 'laws.FnExactTeethOf': WHATEVER THE INPUT: true; the input reads as it did. -/
def fnExactTeethOfSpec : ChangeSpec := { name := "fnExactTeethOf", fn := fun _ => fun
  | [d] => { results := [.lit (.bool true)], args := [d] }
  | _ => none }
def fnExactTeethOfRow : OpenClaim := { program := "ytgomeeheleiapaa", sum := "4f9c2b69e8ba5568436850791e3a70e67915bb88abb45088262ee75de9730efb", func := "loop.example/g01278/laws.FnExactTeethOf", spec := "fnExactTeethOf", unfollowed := true, recurses := true, apart := false }
def FnExactTeethOfSaid : Prop := fnExactTeethOfRow.holds Try.pinned (OpenSpec.ofChange fnExactTeethOfSpec)

/-- ITS FALSE NEIGHBOUR: 'it returns false'. Refute it at one input. -/
def fnExactTeethOfWrong : ChangeSpec := { name := "fnExactTeethOf", fn := fun _ => fun
  | [d] => { results := [.lit (.bool false)], args := [d] }
  | _ => none }
def FnExactTeethOfWrongFalsely : Prop := fnExactTeethOfRow.holds Try.pinned (OpenSpec.ofChange fnExactTeethOfWrong)

/-- 'laws.FnExactBackTrain': WHATEVER THE INPUT: true; the input reads as it did. -/
def fnExactBackTrainSpec : ChangeSpec := { name := "fnExactBackTrain", fn := fun _ => fun
  | [d] => { results := [.lit (.bool true)], args := [d] }
  | _ => none }
def fnExactBackTrainRow : OpenClaim := { program := "ytgomeeheleiapaa", sum := "4f9c2b69e8ba5568436850791e3a70e67915bb88abb45088262ee75de9730efb", func := "loop.example/g01278/laws.FnExactBackTrain", spec := "fnExactBackTrain", unfollowed := true, recurses := true, apart := false }
def FnExactBackTrainSaid : Prop := fnExactBackTrainRow.holds Try.pinned (OpenSpec.ofChange fnExactBackTrainSpec)

/-- ITS FALSE NEIGHBOUR: 'it returns false'. Refute it at one input. -/
def fnExactBackTrainWrong : ChangeSpec := { name := "fnExactBackTrain", fn := fun _ => fun
  | [d] => { results := [.lit (.bool false)], args := [d] }
  | _ => none }
def FnExactBackTrainWrongFalsely : Prop := fnExactBackTrainRow.holds Try.pinned (OpenSpec.ofChange fnExactBackTrainWrong)

/-- 'laws.FnExactDrivenCount': WHATEVER THE INPUT: true; the input reads as it did. -/
def fnExactDrivenCountSpec : ChangeSpec := { name := "fnExactDrivenCount", fn := fun _ => fun
  | [d1, d2] => { results := [.lit (.bool true)], args := [d1, d2] }
  | _ => none }
def fnExactDrivenCountRow : OpenClaim := { program := "ytgomeeheleiapaa", sum := "4f9c2b69e8ba5568436850791e3a70e67915bb88abb45088262ee75de9730efb", func := "loop.example/g01278/laws.FnExactDrivenCount", spec := "fnExactDrivenCount", unfollowed := true, recurses := true, apart := false }
def FnExactDrivenCountSaid : Prop := fnExactDrivenCountRow.holds Try.pinned (OpenSpec.ofChange fnExactDrivenCountSpec)

/-- ITS FALSE NEIGHBOUR: 'it returns false'. Refute it at one input. -/
def fnExactDrivenCountWrong : ChangeSpec := { name := "fnExactDrivenCount", fn := fun _ => fun
  | [d1, d2] => { results := [.lit (.bool false)], args := [d1, d2] }
  | _ => none }
def FnExactDrivenCountWrongFalsely : Prop := fnExactDrivenCountRow.holds Try.pinned (OpenSpec.ofChange fnExactDrivenCountWrong)

/-- 'laws.FnExactOffAfter': WHATEVER THE INPUT: true; the input reads as it did. -/
def fnExactOffAfterSpec : ChangeSpec := { name := "fnExactOffAfter", fn := fun _ => fun
  | [d1, d2, d3] => { results := [.lit (.bool true)], args := [d1, d2, d3] }
  | _ => none }
def fnExactOffAfterRow : OpenClaim := { program := "ytgomeeheleiapaa", sum := "4f9c2b69e8ba5568436850791e3a70e67915bb88abb45088262ee75de9730efb", func := "loop.example/g01278/laws.FnExactOffAfter", spec := "fnExactOffAfter", unfollowed := true, recurses := true, apart := false }
def FnExactOffAfterSaid : Prop := fnExactOffAfterRow.holds Try.pinned (OpenSpec.ofChange fnExactOffAfterSpec)

/-- ITS FALSE NEIGHBOUR: 'it returns false'. Refute it at one input. -/
def fnExactOffAfterWrong : ChangeSpec := { name := "fnExactOffAfter", fn := fun _ => fun
  | [d1, d2, d3] => { results := [.lit (.bool false)], args := [d1, d2, d3] }
  | _ => none }
def FnExactOffAfterWrongFalsely : Prop := fnExactOffAfterRow.holds Try.pinned (OpenSpec.ofChange fnExactOffAfterWrong)

/-- 'laws.FnExactNearerRatio': WHATEVER THE INPUT: true; the input reads as it did. -/
def fnExactNearerRatioSpec : ChangeSpec := { name := "fnExactNearerRatio", fn := fun _ => fun
  | [d1, d2, d3] => { results := [.lit (.bool true)], args := [d1, d2, d3] }
  | _ => none }
def fnExactNearerRatioRow : OpenClaim := { program := "ytgomeeheleiapaa", sum := "4f9c2b69e8ba5568436850791e3a70e67915bb88abb45088262ee75de9730efb", func := "loop.example/g01278/laws.FnExactNearerRatio", spec := "fnExactNearerRatio", apart := false }
def FnExactNearerRatioSaid : Prop := fnExactNearerRatioRow.holds Try.pinned (OpenSpec.ofChange fnExactNearerRatioSpec)

/-- ITS FALSE NEIGHBOUR: 'it returns false'. Refute it at one input. -/
def fnExactNearerRatioWrong : ChangeSpec := { name := "fnExactNearerRatio", fn := fun _ => fun
  | [d1, d2, d3] => { results := [.lit (.bool false)], args := [d1, d2, d3] }
  | _ => none }
def FnExactNearerRatioWrongFalsely : Prop := fnExactNearerRatioRow.holds Try.pinned (OpenSpec.ofChange fnExactNearerRatioWrong)

/- THE SECOND FORM. 'bulk': how many values and letters a reading holds, each counted each time it is reached (what is shared counts as often as it is met; a slice's spare places count too). A statement '..UptoSaid' is the law's where the arguments, and the package variables that the reading takes, are together of bulk at most 1048576: NARROWER than '..Said'. Prove '..Said' where nothing that the law and all that it calls make is longer than what came in: it says more and counts as full. Else prove '..UptoSaid'. A law counts once. -/
mutual
def uptoBulk {H : Type} : DataW H → Nat
  | .lit (.string bytes) => bytes.length + 1
  | .lit _ => 1
  | .nil => 1
  | .ptr d => uptoBulk d + 1
  | .slice elems spare => uptoBulkAll elems + uptoBulkAll spare + 1
  | .agg parts => uptoBulkAll parts + 1
  | .iface _ d => uptoBulk d + 1
  | .map entries => uptoBulkEntries entries + 1
  | .held _ => 1
def uptoBulkAll {H : Type} : List (DataW H) → Nat
  | [] => 0
  | d :: r => uptoBulk d + uptoBulkAll r
def uptoBulkEntries {H : Type} : List (Lit × DataW H) → Nat
  | [] => 0
  | x :: r => uptoBulkEntry x + uptoBulkEntries r
def uptoBulkEntry {H : Type} : Lit × DataW H → Nat
  | (.string bytes, d) => bytes.length + uptoBulk d + 1
  | (_, d) => uptoBulk d + 1
 end
def uptoSmall : (H : Type) → List (DataW H) → Bool := fun _ ds => decide (uptoBulkAll ds ≤ 1048576)
def OpenSpec.upto (s : _root_.Go.ChangeSpec) : _root_.Go.OpenSpec := { _root_.Go.OpenSpec.ofChange s with cond := some uptoSmall }

/-- 'laws.FnExactValidRatio', WHERE WHAT IT READS IS OF BULK AT MOST 1048576: true; the input reads as it did. -/
def fnExactValidRatioUptoRow : OpenClaim := { program := "ytgomeeheleiapaa", sum := "4f9c2b69e8ba5568436850791e3a70e67915bb88abb45088262ee75de9730efb", func := "loop.example/g01278/laws.FnExactValidRatio", spec := "fnExactValidRatio", apart := false, narrowed := true }
def FnExactValidRatioUptoSaid : Prop := fnExactValidRatioUptoRow.holds Try.pinned (OpenSpec.upto fnExactValidRatioSpec)

/-- 'laws.FnExactMakeRatio', WHERE WHAT IT READS IS OF BULK AT MOST 1048576: true; the input reads as it did. -/
def fnExactMakeRatioUptoRow : OpenClaim := { program := "ytgomeeheleiapaa", sum := "4f9c2b69e8ba5568436850791e3a70e67915bb88abb45088262ee75de9730efb", func := "loop.example/g01278/laws.FnExactMakeRatio", spec := "fnExactMakeRatio", apart := false, narrowed := true }
def FnExactMakeRatioUptoSaid : Prop := fnExactMakeRatioUptoRow.holds Try.pinned (OpenSpec.upto fnExactMakeRatioSpec)

/-- 'laws.FnExactCompareRatios', WHERE WHAT IT READS IS OF BULK AT MOST 1048576: true; the input reads as it did. -/
def fnExactCompareRatiosUptoRow : OpenClaim := { program := "ytgomeeheleiapaa", sum := "4f9c2b69e8ba5568436850791e3a70e67915bb88abb45088262ee75de9730efb", func := "loop.example/g01278/laws.FnExactCompareRatios", spec := "fnExactCompareRatios", apart := false, narrowed := true }
def FnExactCompareRatiosUptoSaid : Prop := fnExactCompareRatiosUptoRow.holds Try.pinned (OpenSpec.upto fnExactCompareRatiosSpec)

/-- 'laws.FnExactTimesRatio', WHERE WHAT IT READS IS OF BULK AT MOST 1048576: true; the input reads as it did. -/
def fnExactTimesRatioUptoRow : OpenClaim := { program := "ytgomeeheleiapaa", sum := "4f9c2b69e8ba5568436850791e3a70e67915bb88abb45088262ee75de9730efb", func := "loop.example/g01278/laws.FnExactTimesRatio", spec := "fnExactTimesRatio", apart := false, narrowed := true }
def FnExactTimesRatioUptoSaid : Prop := fnExactTimesRatioUptoRow.holds Try.pinned (OpenSpec.upto fnExactTimesRatioSpec)

/-- 'laws.FnExactValidTrain', WHERE WHAT IT READS IS OF BULK AT MOST 1048576: true; the input reads as it did. -/
def fnExactValidTrainUptoRow : OpenClaim := { program := "ytgomeeheleiapaa", sum := "4f9c2b69e8ba5568436850791e3a70e67915bb88abb45088262ee75de9730efb", func := "loop.example/g01278/laws.FnExactValidTrain", spec := "fnExactValidTrain", unfollowed := true, recurses := true, apart := false, narrowed := true }
def FnExactValidTrainUptoSaid : Prop := fnExactValidTrainUptoRow.holds Try.pinned (OpenSpec.upto fnExactValidTrainSpec)

/-- 'laws.FnExactSameTrain', WHERE WHAT IT READS IS OF BULK AT MOST 1048576: true; the input reads as it did. -/
def fnExactSameTrainUptoRow : OpenClaim := { program := "ytgomeeheleiapaa", sum := "4f9c2b69e8ba5568436850791e3a70e67915bb88abb45088262ee75de9730efb", func := "loop.example/g01278/laws.FnExactSameTrain", spec := "fnExactSameTrain", apart := false, narrowed := true }
def FnExactSameTrainUptoSaid : Prop := fnExactSameTrainUptoRow.holds Try.pinned (OpenSpec.upto fnExactSameTrainSpec)

/-- 'laws.FnExactRatioOf', WHERE WHAT IT READS IS OF BULK AT MOST 1048576: true; the input reads as it did. -/
def fnExactRatioOfUptoRow : OpenClaim := { program := "ytgomeeheleiapaa", sum := "4f9c2b69e8ba5568436850791e3a70e67915bb88abb45088262ee75de9730efb", func := "loop.example/g01278/laws.FnExactRatioOf", spec := "fnExactRatioOf", unfollowed := true, recurses := true, apart := false, narrowed := true }
def FnExactRatioOfUptoSaid : Prop := fnExactRatioOfUptoRow.holds Try.pinned (OpenSpec.upto fnExactRatioOfSpec)

/-- 'laws.FnExactTeethOf', WHERE WHAT IT READS IS OF BULK AT MOST 1048576: true; the input reads as it did. -/
def fnExactTeethOfUptoRow : OpenClaim := { program := "ytgomeeheleiapaa", sum := "4f9c2b69e8ba5568436850791e3a70e67915bb88abb45088262ee75de9730efb", func := "loop.example/g01278/laws.FnExactTeethOf", spec := "fnExactTeethOf", unfollowed := true, recurses := true, apart := false, narrowed := true }
def FnExactTeethOfUptoSaid : Prop := fnExactTeethOfUptoRow.holds Try.pinned (OpenSpec.upto fnExactTeethOfSpec)

/-- 'laws.FnExactBackTrain', WHERE WHAT IT READS IS OF BULK AT MOST 1048576: true; the input reads as it did. -/
def fnExactBackTrainUptoRow : OpenClaim := { program := "ytgomeeheleiapaa", sum := "4f9c2b69e8ba5568436850791e3a70e67915bb88abb45088262ee75de9730efb", func := "loop.example/g01278/laws.FnExactBackTrain", spec := "fnExactBackTrain", unfollowed := true, recurses := true, apart := false, narrowed := true }
def FnExactBackTrainUptoSaid : Prop := fnExactBackTrainUptoRow.holds Try.pinned (OpenSpec.upto fnExactBackTrainSpec)

/-- 'laws.FnExactDrivenCount', WHERE WHAT IT READS IS OF BULK AT MOST 1048576: true; the input reads as it did. -/
def fnExactDrivenCountUptoRow : OpenClaim := { program := "ytgomeeheleiapaa", sum := "4f9c2b69e8ba5568436850791e3a70e67915bb88abb45088262ee75de9730efb", func := "loop.example/g01278/laws.FnExactDrivenCount", spec := "fnExactDrivenCount", unfollowed := true, recurses := true, apart := false, narrowed := true }
def FnExactDrivenCountUptoSaid : Prop := fnExactDrivenCountUptoRow.holds Try.pinned (OpenSpec.upto fnExactDrivenCountSpec)

/-- 'laws.FnExactOffAfter', WHERE WHAT IT READS IS OF BULK AT MOST 1048576: true; the input reads as it did. -/
def fnExactOffAfterUptoRow : OpenClaim := { program := "ytgomeeheleiapaa", sum := "4f9c2b69e8ba5568436850791e3a70e67915bb88abb45088262ee75de9730efb", func := "loop.example/g01278/laws.FnExactOffAfter", spec := "fnExactOffAfter", unfollowed := true, recurses := true, apart := false, narrowed := true }
def FnExactOffAfterUptoSaid : Prop := fnExactOffAfterUptoRow.holds Try.pinned (OpenSpec.upto fnExactOffAfterSpec)

/-- 'laws.FnExactNearerRatio', WHERE WHAT IT READS IS OF BULK AT MOST 1048576: true; the input reads as it did. -/
def fnExactNearerRatioUptoRow : OpenClaim := { program := "ytgomeeheleiapaa", sum := "4f9c2b69e8ba5568436850791e3a70e67915bb88abb45088262ee75de9730efb", func := "loop.example/g01278/laws.FnExactNearerRatio", spec := "fnExactNearerRatio", apart := false, narrowed := true }
def FnExactNearerRatioUptoSaid : Prop := fnExactNearerRatioUptoRow.holds Try.pinned (OpenSpec.upto fnExactNearerRatioSpec)

end Rows
end Go.Proofs.Ytgomeeheleiapaa
