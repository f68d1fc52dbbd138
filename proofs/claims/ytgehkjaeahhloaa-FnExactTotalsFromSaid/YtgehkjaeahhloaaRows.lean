/-
  No cell of these rows narrows 'for every input' (looked for: loops, veiled, ifaces, maps, wideKeys, modest, calm, conditions, laid).
  DERIVED. THE GIVEN ROWS OF THIS SEAT. 10 by the template 'for every input the law returns true; each argument reads behind the call as it read before'; 0 by the template 'total and deterministic' (their statements: YtgehkjaeahhloaaTotals.lean).
  GIVEN WITH THE SEED: the statements are not yours to turn. If you find one false, say at which input.
  Laid BY PROGRAM, IN A SANDBOX (cutbox-rows.mjs): the forced cells as the released guide's own fill.sh prints them over the translation cb03051d1d3fb534… (all of the seat's roots in one cut). By AI agents, Wed Nov 11 2026. No macro, syntax, notation, axiom, sorry.
-/
import Derived.Test.YtgehkjaeahhloaaChecked
import GoSem.Claim
import GoSem.ClaimJoined
import GoSem.ClaimMapViews
import Derived.JoinedTies
import Derived.KernelRfl
namespace Go.Proofs.Ytgehkjaeahhloaa
/- THE CELL 'sum', in the pinned program and in every row, IS THE sha256 OF THE DUMP (.gsa) THAT YtgehkjaeahhloaaProg.lean LOADS. Nothing in Lean hashes anything: it is a label: what it is worth is what the hold of that sum in a sandbox is worth. -/
noncomputable def Try.pinned : Pinned := { name := "ytgehkjaeahhloaa", sum := "cb03051d1d3fb534b851920d18c4bdfdf91b40930e9d649fd6ff12df091f8eed", checked := Try.checked }
namespace Rows
def none {H : Type} : Left H := { results := [], args := [] }

/-- 'laws.FnExactValidMeter': WHATEVER THE INPUT: true; the input reads as it did. -/
def fnExactValidMeterSpec : ChangeSpec := { name := "fnExactValidMeter", fn := fun _ => fun
  | [d] => { results := [.lit (.bool true)], args := [d] }
  | _ => none }
def fnExactValidMeterRow : OpenClaim := { program := "ytgehkjaeahhloaa", sum := "cb03051d1d3fb534b851920d18c4bdfdf91b40930e9d649fd6ff12df091f8eed", func := "loop.example/g01278/laws.FnExactValidMeter", spec := "fnExactValidMeter", unfollowed := true, recurses := true, apart := false }
def FnExactValidMeterSaid : Prop := fnExactValidMeterRow.holds Try.pinned (OpenSpec.ofChange fnExactValidMeterSpec)

/-- ITS FALSE NEIGHBOUR: 'it returns false'. Refute it at one input. -/
def fnExactValidMeterWrong : ChangeSpec := { name := "fnExactValidMeter", fn := fun _ => fun
  | [d] => { results := [.lit (.bool false)], args := [d] }
  | _ => none }
def FnExactValidMeterWrongFalsely : Prop := fnExactValidMeterRow.holds Try.pinned (OpenSpec.ofChange fnExactValidMeterWrong)

/-- 'laws.FnExactCountAfter': WHATEVER THE INPUT: true; the input reads as it did. -/
def fnExactCountAfterSpec : ChangeSpec := { name := "fnExactCountAfter", fn := fun _ => fun
  | [d1, d2] => { results := [.lit (.bool true)], args := [d1, d2] }
  | _ => none }
def fnExactCountAfterRow : OpenClaim := { program := "ytgehkjaeahhloaa", sum := "cb03051d1d3fb534b851920d18c4bdfdf91b40930e9d649fd6ff12df091f8eed", func := "loop.example/g01278/laws.FnExactCountAfter", spec := "fnExactCountAfter", unfollowed := true, recurses := true, apart := false }
def FnExactCountAfterSaid : Prop := fnExactCountAfterRow.holds Try.pinned (OpenSpec.ofChange fnExactCountAfterSpec)

/-- ITS FALSE NEIGHBOUR: 'it returns false'. Refute it at one input. -/
def fnExactCountAfterWrong : ChangeSpec := { name := "fnExactCountAfter", fn := fun _ => fun
  | [d1, d2] => { results := [.lit (.bool false)], args := [d1, d2] }
  | _ => none }
def FnExactCountAfterWrongFalsely : Prop := fnExactCountAfterRow.holds Try.pinned (OpenSpec.ofChange fnExactCountAfterWrong)

/-- 'laws.FnExactShowsAfter': WHATEVER THE INPUT: true; the input reads as it did. -/
def fnExactShowsAfterSpec : ChangeSpec := { name := "fnExactShowsAfter", fn := fun _ => fun
  | [d1, d2] => { results := [.lit (.bool true)], args := [d1, d2] }
  | _ => none }
def fnExactShowsAfterRow : OpenClaim := { program := "ytgehkjaeahhloaa", sum := "cb03051d1d3fb534b851920d18c4bdfdf91b40930e9d649fd6ff12df091f8eed", func := "loop.example/g01278/laws.FnExactShowsAfter", spec := "fnExactShowsAfter", unfollowed := true, recurses := true, apart := false }
def FnExactShowsAfterSaid : Prop := fnExactShowsAfterRow.holds Try.pinned (OpenSpec.ofChange fnExactShowsAfterSpec)

/-- ITS FALSE NEIGHBOUR: 'it returns false'. Refute it at one input. -/
def fnExactShowsAfterWrong : ChangeSpec := { name := "fnExactShowsAfter", fn := fun _ => fun
  | [d1, d2] => { results := [.lit (.bool false)], args := [d1, d2] }
  | _ => none }
def FnExactShowsAfterWrongFalsely : Prop := fnExactShowsAfterRow.holds Try.pinned (OpenSpec.ofChange fnExactShowsAfterWrong)

/-- 'laws.FnExactFlowsFor': WHATEVER THE INPUT: true; the input reads as it did. -/
def fnExactFlowsForSpec : ChangeSpec := { name := "fnExactFlowsFor", fn := fun _ => fun
  | [d1, d2, d3] => { results := [.lit (.bool true)], args := [d1, d2, d3] }
  | _ => none }
def fnExactFlowsForRow : OpenClaim := { program := "ytgehkjaeahhloaa", sum := "cb03051d1d3fb534b851920d18c4bdfdf91b40930e9d649fd6ff12df091f8eed", func := "loop.example/g01278/laws.FnExactFlowsFor", spec := "fnExactFlowsFor", unfollowed := true, recurses := true, apart := false }
def FnExactFlowsForSaid : Prop := fnExactFlowsForRow.holds Try.pinned (OpenSpec.ofChange fnExactFlowsForSpec)

/-- ITS FALSE NEIGHBOUR: 'it returns false'. Refute it at one input. -/
def fnExactFlowsForWrong : ChangeSpec := { name := "fnExactFlowsFor", fn := fun _ => fun
  | [d1, d2, d3] => { results := [.lit (.bool false)], args := [d1, d2, d3] }
  | _ => none }
def FnExactFlowsForWrongFalsely : Prop := fnExactFlowsForRow.holds Try.pinned (OpenSpec.ofChange fnExactFlowsForWrong)

/-- 'laws.FnExactSimplestPortion': WHATEVER THE INPUT: true; the input reads as it did. -/
def fnExactSimplestPortionSpec : ChangeSpec := { name := "fnExactSimplestPortion", fn := fun _ => fun
  | [d1, d2] => { results := [.lit (.bool true)], args := [d1, d2] }
  | _ => none }
def fnExactSimplestPortionRow : OpenClaim := { program := "ytgehkjaeahhloaa", sum := "cb03051d1d3fb534b851920d18c4bdfdf91b40930e9d649fd6ff12df091f8eed", func := "loop.example/g01278/laws.FnExactSimplestPortion", spec := "fnExactSimplestPortion", apart := false }
def FnExactSimplestPortionSaid : Prop := fnExactSimplestPortionRow.holds Try.pinned (OpenSpec.ofChange fnExactSimplestPortionSpec)

/-- ITS FALSE NEIGHBOUR: 'it returns false'. Refute it at one input. -/
def fnExactSimplestPortionWrong : ChangeSpec := { name := "fnExactSimplestPortion", fn := fun _ => fun
  | [d1, d2] => { results := [.lit (.bool false)], args := [d1, d2] }
  | _ => none }
def FnExactSimplestPortionWrongFalsely : Prop := fnExactSimplestPortionRow.holds Try.pinned (OpenSpec.ofChange fnExactSimplestPortionWrong)

/-- 'laws.FnExactValidTotals': WHATEVER THE INPUT: true; the input reads as it did. -/
def fnExactValidTotalsSpec : ChangeSpec := { name := "fnExactValidTotals", fn := fun _ => fun
  | [d] => { results := [.lit (.bool true)], args := [d] }
  | _ => none }
def fnExactValidTotalsRow : OpenClaim := { program := "ytgehkjaeahhloaa", sum := "cb03051d1d3fb534b851920d18c4bdfdf91b40930e9d649fd6ff12df091f8eed", func := "loop.example/g01278/laws.FnExactValidTotals", spec := "fnExactValidTotals", apart := false }
def FnExactValidTotalsSaid : Prop := fnExactValidTotalsRow.holds Try.pinned (OpenSpec.ofChange fnExactValidTotalsSpec)

/-- ITS FALSE NEIGHBOUR: 'it returns false'. Refute it at one input. -/
def fnExactValidTotalsWrong : ChangeSpec := { name := "fnExactValidTotals", fn := fun _ => fun
  | [d] => { results := [.lit (.bool false)], args := [d] }
  | _ => none }
def FnExactValidTotalsWrongFalsely : Prop := fnExactValidTotalsRow.holds Try.pinned (OpenSpec.ofChange fnExactValidTotalsWrong)

/-- 'laws.FnExactSameTotals': WHATEVER THE INPUT: true; the input reads as it did. -/
def fnExactSameTotalsSpec : ChangeSpec := { name := "fnExactSameTotals", fn := fun _ => fun
  | [d1, d2] => { results := [.lit (.bool true)], args := [d1, d2] }
  | _ => none }
def fnExactSameTotalsRow : OpenClaim := { program := "ytgehkjaeahhloaa", sum := "cb03051d1d3fb534b851920d18c4bdfdf91b40930e9d649fd6ff12df091f8eed", func := "loop.example/g01278/laws.FnExactSameTotals", spec := "fnExactSameTotals", apart := false }
def FnExactSameTotalsSaid : Prop := fnExactSameTotalsRow.holds Try.pinned (OpenSpec.ofChange fnExactSameTotalsSpec)

/-- ITS FALSE NEIGHBOUR: 'it returns false'. Refute it at one input. -/
def fnExactSameTotalsWrong : ChangeSpec := { name := "fnExactSameTotals", fn := fun _ => fun
  | [d1, d2] => { results := [.lit (.bool false)], args := [d1, d2] }
  | _ => none }
def FnExactSameTotalsWrongFalsely : Prop := fnExactSameTotalsRow.holds Try.pinned (OpenSpec.ofChange fnExactSameTotalsWrong)

/-- 'laws.FnExactTotalsFrom': WHATEVER THE INPUT: true; the input reads as it did. -/
def fnExactTotalsFromSpec : ChangeSpec := { name := "fnExactTotalsFrom", fn := fun _ => fun
  | [d1, d2] => { results := [.lit (.bool true)], args := [d1, d2] }
  | _ => none }
def fnExactTotalsFromRow : OpenClaim := { program := "ytgehkjaeahhloaa", sum := "cb03051d1d3fb534b851920d18c4bdfdf91b40930e9d649fd6ff12df091f8eed", func := "loop.example/g01278/laws.FnExactTotalsFrom", spec := "fnExactTotalsFrom", unfollowed := true, recurses := true, apart := false }
def FnExactTotalsFromSaid : Prop := fnExactTotalsFromRow.holds Try.pinned (OpenSpec.ofChange fnExactTotalsFromSpec)

/-- ITS FALSE NEIGHBOUR: 'it returns false'. Refute it at one input. -/
def fnExactTotalsFromWrong : ChangeSpec := { name := "fnExactTotalsFrom", fn := fun _ => fun
  | [d1, d2] => { results := [.lit (.bool false)], args := [d1, d2] }
  | _ => none }
def FnExactTotalsFromWrongFalsely : Prop := fnExactTotalsFromRow.holds Try.pinned (OpenSpec.ofChange fnExactTotalsFromWrong)

/-- 'laws.FnExactSharesOf': WHATEVER THE INPUT: true; the input reads as it did. -/
def fnExactSharesOfSpec : ChangeSpec := { name := "fnExactSharesOf", fn := fun _ => fun
  | [d1, d2] => { results := [.lit (.bool true)], args := [d1, d2] }
  | _ => none }
def fnExactSharesOfRow : OpenClaim := { program := "ytgehkjaeahhloaa", sum := "cb03051d1d3fb534b851920d18c4bdfdf91b40930e9d649fd6ff12df091f8eed", func := "loop.example/g01278/laws.FnExactSharesOf", spec := "fnExactSharesOf", unfollowed := true, recurses := true, apart := false }
def FnExactSharesOfSaid : Prop := fnExactSharesOfRow.holds Try.pinned (OpenSpec.ofChange fnExactSharesOfSpec)

/-- ITS FALSE NEIGHBOUR: 'it returns false'. Refute it at one input. -/
def fnExactSharesOfWrong : ChangeSpec := { name := "fnExactSharesOf", fn := fun _ => fun
  | [d1, d2] => { results := [.lit (.bool false)], args := [d1, d2] }
  | _ => none }
def FnExactSharesOfWrongFalsely : Prop := fnExactSharesOfRow.holds Try.pinned (OpenSpec.ofChange fnExactSharesOfWrong)

/-- 'laws.FnExactCountsByDay': WHATEVER THE INPUT: true; the input reads as it did. -/
def fnExactCountsByDaySpec : ChangeSpec := { name := "fnExactCountsByDay", fn := fun _ => fun
  | [d] => { results := [.lit (.bool true)], args := [d] }
  | _ => none }
def fnExactCountsByDayRow : OpenClaim := { program := "ytgehkjaeahhloaa", sum := "cb03051d1d3fb534b851920d18c4bdfdf91b40930e9d649fd6ff12df091f8eed", func := "loop.example/g01278/laws.FnExactCountsByDay", spec := "fnExactCountsByDay", unfollowed := true, recurses := true, apart := false }
def FnExactCountsByDaySaid : Prop := fnExactCountsByDayRow.holds Try.pinned (OpenSpec.ofChange fnExactCountsByDaySpec)

/-- ITS FALSE NEIGHBOUR: 'it returns false'. Refute it at one input. -/
def fnExactCountsByDayWrong : ChangeSpec := { name := "fnExactCountsByDay", fn := fun _ => fun
  | [d] => { results := [.lit (.bool false)], args := [d] }
  | _ => none }
def FnExactCountsByDayWrongFalsely : Prop := fnExactCountsByDayRow.holds Try.pinned (OpenSpec.ofChange fnExactCountsByDayWrong)

/- THE SECOND FORM. 'bulk': how many values and letters a reading holds, each counted each time it is reached (what is shared counts as often as it is met; a slice's spare places count too). A statement '..UptoSaid' is the law's where the arguments, and the package variables that the reading takes, are together of bulk at most 1048576: NARROWER than '..Said'. Prove '..Said' where nothing that the law and all that it calls make is longer than what came in: it says more and counts as full. Else prove '..UptoSaid'. A law counts once. -/
mutual
def uptoBulk {H : Type} : DataW H → Nat
  | .lit (.string bytes) => bytes.length + 1
  | .lit _ => 1
  | .nil => 1
  | .ptr d => uptoBulk d + 1
  | .slice elems spare => uptoBulkAll elems + uptoBulkAll spare + 1
  | .agg parts => uptoBulkAll parts + 1
  | .iface _ d => uptoBulk d + 1
  | .map entries => uptoBulkEntries entries + 1
  | .held _ => 1
def uptoBulkAll {H : Type} : List (DataW H) → Nat
  | [] => 0
  | d :: r => uptoBulk d + uptoBulkAll r
def uptoBulkEntries {H : Type} : List (Lit × DataW H) → Nat
  | [] => 0
  | x :: r => uptoBulkEntry x + uptoBulkEntries r
def uptoBulkEntry {H : Type} : Lit × DataW H → Nat
  | (.string bytes, d) => bytes.length + uptoBulk d + 1
  | (_, d) => uptoBulk d + 1
 end
def uptoSmall : (H : Type) → List (DataW H) → Bool := fun _ ds => decide (uptoBulkAll ds ≤ 1048576)
def OpenSpec.upto (s : _root_.Go.ChangeSpec) : _root_.Go.OpenSpec := { _root_.Go.OpenSpec.ofChange s with cond := some uptoSmall }

/-- 'laws.FnExactValidMeter', WHERE WHAT IT READS IS OF BULK AT MOST 1048576: true; the input reads as it did. -/
def fnExactValidMeterUptoRow : OpenClaim := { program := "ytgehkjaeahhloaa", sum := "cb03051d1d3fb534b851920d18c4bdfdf91b40930e9d649fd6ff12df091f8eed", func := "loop.example/g01278/laws.FnExactValidMeter", spec := "fnExactValidMeter", unfollowed := true, recurses := true, apart := false, narrowed := true }
def FnExactValidMeterUptoSaid : Prop := fnExactValidMeterUptoRow.holds Try.pinned (OpenSpec.upto fnExactValidMeterSpec)

/-- 'laws.FnExactCountAfter', WHERE WHAT IT READS IS OF BULK AT MOST 1048576: true; the input reads as it did. -/
def fnExactCountAfterUptoRow : OpenClaim := { program := "ytgehkjaeahhloaa", sum := "cb03051d1d3fb534b851920d18c4bdfdf91b40930e9d649fd6ff12df091f8eed", func := "loop.example/g01278/laws.FnExactCountAfter", spec := "fnExactCountAfter", unfollowed := true, recurses := true, apart := false, narrowed := true }
def FnExactCountAfterUptoSaid : Prop := fnExactCountAfterUptoRow.holds Try.pinned (OpenSpec.upto fnExactCountAfterSpec)

/-- 'laws.FnExactShowsAfter', WHERE WHAT IT READS IS OF BULK AT MOST 1048576: true; the input reads as it did. -/
def fnExactShowsAfterUptoRow : OpenClaim := { program := "ytgehkjaeahhloaa", sum := "cb03051d1d3fb534b851920d18c4bdfdf91b40930e9d649fd6ff12df091f8eed", func := "loop.example/g01278/laws.FnExactShowsAfter", spec := "fnExactShowsAfter", unfollowed := true, recurses := true, apart := false, narrowed := true }
def FnExactShowsAfterUptoSaid : Prop := fnExactShowsAfterUptoRow.holds Try.pinned (OpenSpec.upto fnExactShowsAfterSpec)

/-- 'laws.FnExactFlowsFor', WHERE WHAT IT READS IS OF BULK AT MOST 1048576: true; the input reads as it did. -/
def fnExactFlowsForUptoRow : OpenClaim := { program := "ytgehkjaeahhloaa", sum := "cb03051d1d3fb534b851920d18c4bdfdf91b40930e9d649fd6ff12df091f8eed", func := "loop.example/g01278/laws.FnExactFlowsFor", spec := "fnExactFlowsFor", unfollowed := true, recurses := true, apart := false, narrowed := true }
def FnExactFlowsForUptoSaid : Prop := fnExactFlowsForUptoRow.holds Try.pinned (OpenSpec.upto fnExactFlowsForSpec)

/-- 'laws.FnExactSimplestPortion', WHERE WHAT IT READS IS OF BULK AT MOST 1048576: true; the input reads as it did. -/
def fnExactSimplestPortionUptoRow : OpenClaim := { program := "ytgehkjaeahhloaa", sum := "cb03051d1d3fb534b851920d18c4bdfdf91b40930e9d649fd6ff12df091f8eed", func := "loop.example/g01278/laws.FnExactSimplestPortion", spec := "fnExactSimplestPortion", apart := false, narrowed := true }
def FnExactSimplestPortionUptoSaid : Prop := fnExactSimplestPortionUptoRow.holds Try.pinned (OpenSpec.upto fnExactSimplestPortionSpec)

/-- 'laws.FnExactValidTotals', WHERE WHAT IT READS IS OF BULK AT MOST 1048576: true; the input reads as it did. -/
def fnExactValidTotalsUptoRow : OpenClaim := { program := "ytgehkjaeahhloaa", sum := "cb03051d1d3fb534b851920d18c4bdfdf91b40930e9d649fd6ff12df091f8eed", func := "loop.example/g01278/laws.FnExactValidTotals", spec := "fnExactValidTotals", apart := false, narrowed := true }
def FnExactValidTotalsUptoSaid : Prop := fnExactValidTotalsUptoRow.holds Try.pinned (OpenSpec.upto fnExactValidTotalsSpec)

/-- 'laws.FnExactSameTotals', WHERE WHAT IT READS IS OF BULK AT MOST 1048576: true; the input reads as it did. -/
def fnExactSameTotalsUptoRow : OpenClaim := { program := "ytgehkjaeahhloaa", sum := "cb03051d1d3fb534b851920d18c4bdfdf91b40930e9d649fd6ff12df091f8eed", func := "loop.example/g01278/laws.FnExactSameTotals", spec := "fnExactSameTotals", apart := false, narrowed := true }
def FnExactSameTotalsUptoSaid : Prop := fnExactSameTotalsUptoRow.holds Try.pinned (OpenSpec.upto fnExactSameTotalsSpec)

/-- 'laws.FnExactTotalsFrom', WHERE WHAT IT READS IS OF BULK AT MOST 1048576: true; the input reads as it did. -/
def fnExactTotalsFromUptoRow : OpenClaim := { program := "ytgehkjaeahhloaa", sum := "cb03051d1d3fb534b851920d18c4bdfdf91b40930e9d649fd6ff12df091f8eed", func := "loop.example/g01278/laws.FnExactTotalsFrom", spec := "fnExactTotalsFrom", unfollowed := true, recurses := true, apart := false, narrowed := true }
def FnExactTotalsFromUptoSaid : Prop := fnExactTotalsFromUptoRow.holds Try.pinned (OpenSpec.upto fnExactTotalsFromSpec)

/-- 'laws.FnExactSharesOf', WHERE WHAT IT READS IS OF BULK AT MOST 1048576: true; the input reads as it did. -/
def fnExactSharesOfUptoRow : OpenClaim := { program := "ytgehkjaeahhloaa", sum := "cb03051d1d3fb534b851920d18c4bdfdf91b40930e9d649fd6ff12df091f8eed", func := "loop.example/g01278/laws.FnExactSharesOf", spec := "fnExactSharesOf", unfollowed := true, recurses := true, apart := false, narrowed := true }
def FnExactSharesOfUptoSaid : Prop := fnExactSharesOfUptoRow.holds Try.pinned (OpenSpec.upto fnExactSharesOfSpec)

/-- 'laws.FnExactCountsByDay', WHERE WHAT IT READS IS OF BULK AT MOST 1048576: true; the input reads as it did. -/
def fnExactCountsByDayUptoRow : OpenClaim := { program := "ytgehkjaeahhloaa", sum := "cb03051d1d3fb534b851920d18c4bdfdf91b40930e9d649fd6ff12df091f8eed", func := "loop.example/g01278/laws.FnExactCountsByDay", spec := "fnExactCountsByDay", unfollowed := true, recurses := true, apart := false, narrowed := true }
def FnExactCountsByDayUptoSaid : Prop := fnExactCountsByDayUptoRow.holds Try.pinned (OpenSpec.upto fnExactCountsByDaySpec)

end Rows
end Go.Proofs.Ytgehkjaeahhloaa
