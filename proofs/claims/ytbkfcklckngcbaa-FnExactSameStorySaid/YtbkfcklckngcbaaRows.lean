/-
  No cell of these rows narrows 'for every input' (looked for: loops, veiled, ifaces, maps, wideKeys, modest, calm, conditions, laid).
  DERIVED. THE GIVEN ROWS OF THIS SEAT. 10 by the template 'for every input the law returns true; each argument reads behind the call as it read before'; 0 by the template 'total and deterministic' (their statements: YtbkfcklckngcbaaTotals.lean).
  GIVEN WITH THE SEED: the statements are not yours to turn. If you find one false, say at which input.
  Laid BY PROGRAM, IN A SANDBOX (cutbox-rows.mjs): the forced cells as the released guide's own fill.sh prints them over the translation ac81698f57f9398a… (all of the seat's roots in one cut). By AI agents, Wed Nov 11 2026. No macro, syntax, notation, axiom, sorry.
-/
import Derived.Test.YtbkfcklckngcbaaChecked
import GoSem.Claim
import GoSem.ClaimJoined
import GoSem.ClaimMapViews
import Derived.JoinedTies
import Derived.KernelRfl
namespace Go.Proofs.Ytbkfcklckngcbaa
/- THE CELL 'sum', in the pinned program and in every row, IS THE sha256 OF THE DUMP (.gsa) THAT YtbkfcklckngcbaaProg.lean LOADS. Nothing in Lean hashes anything: it is a label: what it is worth is what the hold of that sum in a sandbox is worth. -/
noncomputable def Try.pinned : Pinned := { name := "ytbkfcklckngcbaa", sum := "ac81698f57f9398ad0bb3eb994dde2297cc7de4e3f11be18988637fde0b49a83", checked := Try.checked }
namespace Rows
def none {H : Type} : Left H := { results := [], args := [] }

/-- 'laws.FnExactValidLog': WHATEVER THE INPUT: true; the input reads as it did. -/
def fnExactValidLogSpec : ChangeSpec := { name := "fnExactValidLog", fn := fun _ => fun
  | [d1, d2] => { results := [.lit (.bool true)], args := [d1, d2] }
  | _ => none }
def fnExactValidLogRow : OpenClaim := { program := "ytbkfcklckngcbaa", sum := "ac81698f57f9398ad0bb3eb994dde2297cc7de4e3f11be18988637fde0b49a83", func := "loop.example/g01278/laws.FnExactValidLog", spec := "fnExactValidLog", unfollowed := true, recurses := true, plainKeys := false, apart := false }
def FnExactValidLogSaid : Prop := fnExactValidLogRow.holds Try.pinned (OpenSpec.ofChange fnExactValidLogSpec)

/-- ITS FALSE NEIGHBOUR: 'it returns false'. Refute it at one input. -/
def fnExactValidLogWrong : ChangeSpec := { name := "fnExactValidLog", fn := fun _ => fun
  | [d1, d2] => { results := [.lit (.bool false)], args := [d1, d2] }
  | _ => none }
def FnExactValidLogWrongFalsely : Prop := fnExactValidLogRow.holds Try.pinned (OpenSpec.ofChange fnExactValidLogWrong)

/-- 'laws.FnExactSameLog': WHATEVER THE INPUT: true; the input reads as it did. -/
def fnExactSameLogSpec : ChangeSpec := { name := "fnExactSameLog", fn := fun _ => fun
  | [d1, d2] => { results := [.lit (.bool true)], args := [d1, d2] }
  | _ => none }
def fnExactSameLogRow : OpenClaim := { program := "ytbkfcklckngcbaa", sum := "ac81698f57f9398ad0bb3eb994dde2297cc7de4e3f11be18988637fde0b49a83", func := "loop.example/g01278/laws.FnExactSameLog", spec := "fnExactSameLog", plainKeys := false, apart := false }
def FnExactSameLogSaid : Prop := fnExactSameLogRow.holds Try.pinned (OpenSpec.ofChange fnExactSameLogSpec)

/-- ITS FALSE NEIGHBOUR: 'it returns false'. Refute it at one input. -/
def fnExactSameLogWrong : ChangeSpec := { name := "fnExactSameLog", fn := fun _ => fun
  | [d1, d2] => { results := [.lit (.bool false)], args := [d1, d2] }
  | _ => none }
def FnExactSameLogWrongFalsely : Prop := fnExactSameLogRow.holds Try.pinned (OpenSpec.ofChange fnExactSameLogWrong)

/-- 'laws.FnExactValidFlow': WHATEVER THE INPUT: true; the input reads as it did. -/
def fnExactValidFlowSpec : ChangeSpec := { name := "fnExactValidFlow", fn := fun _ => fun
  | [d] => { results := [.lit (.bool true)], args := [d] }
  | _ => none }
def fnExactValidFlowRow : OpenClaim := { program := "ytbkfcklckngcbaa", sum := "ac81698f57f9398ad0bb3eb994dde2297cc7de4e3f11be18988637fde0b49a83", func := "loop.example/g01278/laws.FnExactValidFlow", spec := "fnExactValidFlow", plainKeys := false, apart := false }
def FnExactValidFlowSaid : Prop := fnExactValidFlowRow.holds Try.pinned (OpenSpec.ofChange fnExactValidFlowSpec)

/-- ITS FALSE NEIGHBOUR: 'it returns false'. Refute it at one input. -/
def fnExactValidFlowWrong : ChangeSpec := { name := "fnExactValidFlow", fn := fun _ => fun
  | [d] => { results := [.lit (.bool false)], args := [d] }
  | _ => none }
def FnExactValidFlowWrongFalsely : Prop := fnExactValidFlowRow.holds Try.pinned (OpenSpec.ofChange fnExactValidFlowWrong)

/-- 'laws.FnExactCountsBetween': WHATEVER THE INPUT: true; the input reads as it did. -/
def fnExactCountsBetweenSpec : ChangeSpec := { name := "fnExactCountsBetween", fn := fun _ => fun
  | [d1, d2, d3, d4] => { results := [.lit (.bool true)], args := [d1, d2, d3, d4] }
  | _ => none }
def fnExactCountsBetweenRow : OpenClaim := { program := "ytbkfcklckngcbaa", sum := "ac81698f57f9398ad0bb3eb994dde2297cc7de4e3f11be18988637fde0b49a83", func := "loop.example/g01278/laws.FnExactCountsBetween", spec := "fnExactCountsBetween", unfollowed := true, recurses := true, plainKeys := false, apart := false }
def FnExactCountsBetweenSaid : Prop := fnExactCountsBetweenRow.holds Try.pinned (OpenSpec.ofChange fnExactCountsBetweenSpec)

/-- ITS FALSE NEIGHBOUR: 'it returns false'. Refute it at one input. -/
def fnExactCountsBetweenWrong : ChangeSpec := { name := "fnExactCountsBetween", fn := fun _ => fun
  | [d1, d2, d3, d4] => { results := [.lit (.bool false)], args := [d1, d2, d3, d4] }
  | _ => none }
def FnExactCountsBetweenWrongFalsely : Prop := fnExactCountsBetweenRow.holds Try.pinned (OpenSpec.ofChange fnExactCountsBetweenWrong)

/-- 'laws.FnExactRoundsBetween': WHATEVER THE INPUT: true; the input reads as it did. -/
def fnExactRoundsBetweenSpec : ChangeSpec := { name := "fnExactRoundsBetween", fn := fun _ => fun
  | [d1, d2, d3, d4] => { results := [.lit (.bool true)], args := [d1, d2, d3, d4] }
  | _ => none }
def fnExactRoundsBetweenRow : OpenClaim := { program := "ytbkfcklckngcbaa", sum := "ac81698f57f9398ad0bb3eb994dde2297cc7de4e3f11be18988637fde0b49a83", func := "loop.example/g01278/laws.FnExactRoundsBetween", spec := "fnExactRoundsBetween", unfollowed := true, recurses := true, plainKeys := false, apart := false }
def FnExactRoundsBetweenSaid : Prop := fnExactRoundsBetweenRow.holds Try.pinned (OpenSpec.ofChange fnExactRoundsBetweenSpec)

/-- ITS FALSE NEIGHBOUR: 'it returns false'. Refute it at one input. -/
def fnExactRoundsBetweenWrong : ChangeSpec := { name := "fnExactRoundsBetween", fn := fun _ => fun
  | [d1, d2, d3, d4] => { results := [.lit (.bool false)], args := [d1, d2, d3, d4] }
  | _ => none }
def FnExactRoundsBetweenWrongFalsely : Prop := fnExactRoundsBetweenRow.holds Try.pinned (OpenSpec.ofChange fnExactRoundsBetweenWrong)

/-- 'laws.FnExactSetBackBy': WHATEVER THE INPUT: true; the input reads as it did. -/
def fnExactSetBackBySpec : ChangeSpec := { name := "fnExactSetBackBy", fn := fun _ => fun
  | [d1, d2, d3, d4] => { results := [.lit (.bool true)], args := [d1, d2, d3, d4] }
  | _ => none }
def fnExactSetBackByRow : OpenClaim := { program := "ytbkfcklckngcbaa", sum := "ac81698f57f9398ad0bb3eb994dde2297cc7de4e3f11be18988637fde0b49a83", func := "loop.example/g01278/laws.FnExactSetBackBy", spec := "fnExactSetBackBy", unfollowed := true, recurses := true, plainKeys := false, apart := false }
def FnExactSetBackBySaid : Prop := fnExactSetBackByRow.holds Try.pinned (OpenSpec.ofChange fnExactSetBackBySpec)

/-- ITS FALSE NEIGHBOUR: 'it returns false'. Refute it at one input. -/
def fnExactSetBackByWrong : ChangeSpec := { name := "fnExactSetBackBy", fn := fun _ => fun
  | [d1, d2, d3, d4] => { results := [.lit (.bool false)], args := [d1, d2, d3, d4] }
  | _ => none }
def FnExactSetBackByWrongFalsely : Prop := fnExactSetBackByRow.holds Try.pinned (OpenSpec.ofChange fnExactSetBackByWrong)

/-- 'laws.FnExactGoesBack': WHATEVER THE INPUT: true; the input reads as it did. -/
def fnExactGoesBackSpec : ChangeSpec := { name := "fnExactGoesBack", fn := fun _ => fun
  | [d1, d2] => { results := [.lit (.bool true)], args := [d1, d2] }
  | _ => none }
def fnExactGoesBackRow : OpenClaim := { program := "ytbkfcklckngcbaa", sum := "ac81698f57f9398ad0bb3eb994dde2297cc7de4e3f11be18988637fde0b49a83", func := "loop.example/g01278/laws.FnExactGoesBack", spec := "fnExactGoesBack", unfollowed := true, recurses := true, plainKeys := false, apart := false }
def FnExactGoesBackSaid : Prop := fnExactGoesBackRow.holds Try.pinned (OpenSpec.ofChange fnExactGoesBackSpec)

/-- ITS FALSE NEIGHBOUR: 'it returns false'. Refute it at one input. -/
def fnExactGoesBackWrong : ChangeSpec := { name := "fnExactGoesBack", fn := fun _ => fun
  | [d1, d2] => { results := [.lit (.bool false)], args := [d1, d2] }
  | _ => none }
def FnExactGoesBackWrongFalsely : Prop := fnExactGoesBackRow.holds Try.pinned (OpenSpec.ofChange fnExactGoesBackWrong)

/-- 'laws.FnExactSuspectsOf': WHATEVER THE INPUT: true; the input reads as it did. -/
def fnExactSuspectsOfSpec : ChangeSpec := { name := "fnExactSuspectsOf", fn := fun _ => fun
  | [d1, d2, d3] => { results := [.lit (.bool true)], args := [d1, d2, d3] }
  | _ => none }
def fnExactSuspectsOfRow : OpenClaim := { program := "ytbkfcklckngcbaa", sum := "ac81698f57f9398ad0bb3eb994dde2297cc7de4e3f11be18988637fde0b49a83", func := "loop.example/g01278/laws.FnExactSuspectsOf", spec := "fnExactSuspectsOf", unfollowed := true, recurses := true, plainKeys := false, apart := false }
def FnExactSuspectsOfSaid : Prop := fnExactSuspectsOfRow.holds Try.pinned (OpenSpec.ofChange fnExactSuspectsOfSpec)

/-- ITS FALSE NEIGHBOUR: 'it returns false'. Refute it at one input. -/
def fnExactSuspectsOfWrong : ChangeSpec := { name := "fnExactSuspectsOf", fn := fun _ => fun
  | [d1, d2, d3] => { results := [.lit (.bool false)], args := [d1, d2, d3] }
  | _ => none }
def FnExactSuspectsOfWrongFalsely : Prop := fnExactSuspectsOfRow.holds Try.pinned (OpenSpec.ofChange fnExactSuspectsOfWrong)

/-- 'laws.FnExactSameStory': WHATEVER THE INPUT: true; the input reads as it did. -/
def fnExactSameStorySpec : ChangeSpec := { name := "fnExactSameStory", fn := fun _ => fun
  | [d1, d2] => { results := [.lit (.bool true)], args := [d1, d2] }
  | _ => none }
def fnExactSameStoryRow : OpenClaim := { program := "ytbkfcklckngcbaa", sum := "ac81698f57f9398ad0bb3eb994dde2297cc7de4e3f11be18988637fde0b49a83", func := "loop.example/g01278/laws.FnExactSameStory", spec := "fnExactSameStory", plainKeys := false, apart := false }
def FnExactSameStorySaid : Prop := fnExactSameStoryRow.holds Try.pinned (OpenSpec.ofChange fnExactSameStorySpec)

/-- ITS FALSE NEIGHBOUR: 'it returns false'. Refute it at one input. -/
def fnExactSameStoryWrong : ChangeSpec := { name := "fnExactSameStory", fn := fun _ => fun
  | [d1, d2] => { results := [.lit (.bool false)], args := [d1, d2] }
  | _ => none }
def FnExactSameStoryWrongFalsely : Prop := fnExactSameStoryRow.holds Try.pinned (OpenSpec.ofChange fnExactSameStoryWrong)

/-- 'laws.FnExactTightestFlow': WHATEVER THE INPUT: true; the input reads as it did. -/
def fnExactTightestFlowSpec : ChangeSpec := { name := "fnExactTightestFlow", fn := fun _ => fun
  | [d1, d2, d3] => { results := [.lit (.bool true)], args := [d1, d2, d3] }
  | _ => none }
def fnExactTightestFlowRow : OpenClaim := { program := "ytbkfcklckngcbaa", sum := "ac81698f57f9398ad0bb3eb994dde2297cc7de4e3f11be18988637fde0b49a83", func := "loop.example/g01278/laws.FnExactTightestFlow", spec := "fnExactTightestFlow", unfollowed := true, recurses := true, plainKeys := false, apart := false }
def FnExactTightestFlowSaid : Prop := fnExactTightestFlowRow.holds Try.pinned (OpenSpec.ofChange fnExactTightestFlowSpec)

/-- ITS FALSE NEIGHBOUR: 'it returns false'. Refute it at one input. -/
def fnExactTightestFlowWrong : ChangeSpec := { name := "fnExactTightestFlow", fn := fun _ => fun
  | [d1, d2, d3] => { results := [.lit (.bool false)], args := [d1, d2, d3] }
  | _ => none }
def FnExactTightestFlowWrongFalsely : Prop := fnExactTightestFlowRow.holds Try.pinned (OpenSpec.ofChange fnExactTightestFlowWrong)

/- THE SECOND FORM. 'bulk': how many values and letters a reading holds, each counted each time it is reached (what is shared counts as often as it is met; a slice's spare places count too). A statement '..UptoSaid' is the law's where the arguments, and the package variables that the reading takes, are together of bulk at most 1048576: NARROWER than '..Said'. Prove '..Said' where nothing that the law and all that it calls make is longer than what came in: it says more and counts as full. Else prove '..UptoSaid'. A law counts once. -/
mutual
def uptoBulk {H : Type} : DataW H → Nat
  | .lit (.string bytes) => bytes.length + 1
  | .lit _ => 1
  | .nil => 1
  | .ptr d => uptoBulk d + 1
  | .slice elems spare => uptoBulkAll elems + uptoBulkAll spare + 1
  | .agg parts => uptoBulkAll parts + 1
  | .iface _ d => uptoBulk d + 1
  | .map entries => uptoBulkEntries entries + 1
  | .held _ => 1
def uptoBulkAll {H : Type} : List (DataW H) → Nat
  | [] => 0
  | d :: r => uptoBulk d + uptoBulkAll r
def uptoBulkEntries {H : Type} : List (Lit × DataW H) → Nat
  | [] => 0
  | x :: r => uptoBulkEntry x + uptoBulkEntries r
def uptoBulkEntry {H : Type} : Lit × DataW H → Nat
  | (.string bytes, d) => bytes.length + uptoBulk d + 1
  | (_, d) => uptoBulk d + 1
 end
def uptoSmall : (H : Type) → List (DataW H) → Bool := fun _ ds => decide (uptoBulkAll ds ≤ 1048576)
def OpenSpec.upto (s : _root_.Go.ChangeSpec) : _root_.Go.OpenSpec := { _root_.Go.OpenSpec.ofChange s with cond := some uptoSmall }

/-- 'laws.FnExactValidLog', WHERE WHAT IT READS IS OF BULK AT MOST 1048576: true; the input reads as it did. -/
def fnExactValidLogUptoRow : OpenClaim := { program := "ytbkfcklckngcbaa", sum := "ac81698f57f9398ad0bb3eb994dde2297cc7de4e3f11be18988637fde0b49a83", func := "loop.example/g01278/laws.FnExactValidLog", spec := "fnExactValidLog", unfollowed := true, recurses := true, plainKeys := false, apart := false, narrowed := true }
def FnExactValidLogUptoSaid : Prop := fnExactValidLogUptoRow.holds Try.pinned (OpenSpec.upto fnExactValidLogSpec)

/-- 'laws.FnExactSameLog', WHERE WHAT IT READS IS OF BULK AT MOST 1048576: true; the input reads as it did. -/
def fnExactSameLogUptoRow : OpenClaim := { program := "ytbkfcklckngcbaa", sum := "ac81698f57f9398ad0bb3eb994dde2297cc7de4e3f11be18988637fde0b49a83", func := "loop.example/g01278/laws.FnExactSameLog", spec := "fnExactSameLog", plainKeys := false, apart := false, narrowed := true }
def FnExactSameLogUptoSaid : Prop := fnExactSameLogUptoRow.holds Try.pinned (OpenSpec.upto fnExactSameLogSpec)

/-- 'laws.FnExactValidFlow', WHERE WHAT IT READS IS OF BULK AT MOST 1048576: true; the input reads as it did. -/
def fnExactValidFlowUptoRow : OpenClaim := { program := "ytbkfcklckngcbaa", sum := "ac81698f57f9398ad0bb3eb994dde2297cc7de4e3f11be18988637fde0b49a83", func := "loop.example/g01278/laws.FnExactValidFlow", spec := "fnExactValidFlow", plainKeys := false, apart := false, narrowed := true }
def FnExactValidFlowUptoSaid : Prop := fnExactValidFlowUptoRow.holds Try.pinned (OpenSpec.upto fnExactValidFlowSpec)

/-- 'laws.FnExactCountsBetween', WHERE WHAT IT READS IS OF BULK AT MOST 1048576: true; the input reads as it did. -/
def fnExactCountsBetweenUptoRow : OpenClaim := { program := "ytbkfcklckngcbaa", sum := "ac81698f57f9398ad0bb3eb994dde2297cc7de4e3f11be18988637fde0b49a83", func := "loop.example/g01278/laws.FnExactCountsBetween", spec := "fnExactCountsBetween", unfollowed := true, recurses := true, plainKeys := false, apart := false, narrowed := true }
def FnExactCountsBetweenUptoSaid : Prop := fnExactCountsBetweenUptoRow.holds Try.pinned (OpenSpec.upto fnExactCountsBetweenSpec)

/-- 'laws.FnExactRoundsBetween', WHERE WHAT IT READS IS OF BULK AT MOST 1048576: true; the input reads as it did. -/
def fnExactRoundsBetweenUptoRow : OpenClaim := { program := "ytbkfcklckngcbaa", sum := "ac81698f57f9398ad0bb3eb994dde2297cc7de4e3f11be18988637fde0b49a83", func := "loop.example/g01278/laws.FnExactRoundsBetween", spec := "fnExactRoundsBetween", unfollowed := true, recurses := true, plainKeys := false, apart := false, narrowed := true }
def FnExactRoundsBetweenUptoSaid : Prop := fnExactRoundsBetweenUptoRow.holds Try.pinned (OpenSpec.upto fnExactRoundsBetweenSpec)

/-- 'laws.FnExactSetBackBy', WHERE WHAT IT READS IS OF BULK AT MOST 1048576: true; the input reads as it did. -/
def fnExactSetBackByUptoRow : OpenClaim := { program := "ytbkfcklckngcbaa", sum := "ac81698f57f9398ad0bb3eb994dde2297cc7de4e3f11be18988637fde0b49a83", func := "loop.example/g01278/laws.FnExactSetBackBy", spec := "fnExactSetBackBy", unfollowed := true, recurses := true, plainKeys := false, apart := false, narrowed := true }
def FnExactSetBackByUptoSaid : Prop := fnExactSetBackByUptoRow.holds Try.pinned (OpenSpec.upto fnExactSetBackBySpec)

/-- 'laws.FnExactGoesBack', WHERE WHAT IT READS IS OF BULK AT MOST 1048576: true; the input reads as it did. -/
def fnExactGoesBackUptoRow : OpenClaim := { program := "ytbkfcklckngcbaa", sum := "ac81698f57f9398ad0bb3eb994dde2297cc7de4e3f11be18988637fde0b49a83", func := "loop.example/g01278/laws.FnExactGoesBack", spec := "fnExactGoesBack", unfollowed := true, recurses := true, plainKeys := false, apart := false, narrowed := true }
def FnExactGoesBackUptoSaid : Prop := fnExactGoesBackUptoRow.holds Try.pinned (OpenSpec.upto fnExactGoesBackSpec)

/-- 'laws.FnExactSuspectsOf', WHERE WHAT IT READS IS OF BULK AT MOST 1048576: true; the input reads as it did. -/
def fnExactSuspectsOfUptoRow : OpenClaim := { program := "ytbkfcklckngcbaa", sum := "ac81698f57f9398ad0bb3eb994dde2297cc7de4e3f11be18988637fde0b49a83", func := "loop.example/g01278/laws.FnExactSuspectsOf", spec := "fnExactSuspectsOf", unfollowed := true, recurses := true, plainKeys := false, apart := false, narrowed := true }
def FnExactSuspectsOfUptoSaid : Prop := fnExactSuspectsOfUptoRow.holds Try.pinned (OpenSpec.upto fnExactSuspectsOfSpec)

/-- 'laws.FnExactSameStory', WHERE WHAT IT READS IS OF BULK AT MOST 1048576: true; the input reads as it did. -/
def fnExactSameStoryUptoRow : OpenClaim := { program := "ytbkfcklckngcbaa", sum := "ac81698f57f9398ad0bb3eb994dde2297cc7de4e3f11be18988637fde0b49a83", func := "loop.example/g01278/laws.FnExactSameStory", spec := "fnExactSameStory", plainKeys := false, apart := false, narrowed := true }
def FnExactSameStoryUptoSaid : Prop := fnExactSameStoryUptoRow.holds Try.pinned (OpenSpec.upto fnExactSameStorySpec)

/-- 'laws.FnExactTightestFlow', WHERE WHAT IT READS IS OF BULK AT MOST 1048576: true; the input reads as it did. -/
def fnExactTightestFlowUptoRow : OpenClaim := { program := "ytbkfcklckngcbaa", sum := "ac81698f57f9398ad0bb3eb994dde2297cc7de4e3f11be18988637fde0b49a83", func := "loop.example/g01278/laws.FnExactTightestFlow", spec := "fnExactTightestFlow", unfollowed := true, recurses := true, plainKeys := false, apart := false, narrowed := true }
def FnExactTightestFlowUptoSaid : Prop := fnExactTightestFlowUptoRow.holds Try.pinned (OpenSpec.upto fnExactTightestFlowSpec)

end Rows
end Go.Proofs.Ytbkfcklckngcbaa
