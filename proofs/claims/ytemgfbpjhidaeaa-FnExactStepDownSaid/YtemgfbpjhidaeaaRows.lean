/-
  No cell of these rows narrows 'for every input' (looked for: loops, veiled, ifaces, maps, wideKeys, modest, calm, conditions, laid).
  DERIVED. THE GIVEN ROWS OF THIS SEAT. 7 by the template 'for every input the law returns true; each argument reads behind the call as it read before'; 0 by the template 'total and deterministic' (their statements: YtemgfbpjhidaeaaTotals.lean).
  GIVEN WITH THE SEED: the statements are not yours to turn. If you find one false, say at which input.
  Laid BY PROGRAM, IN A SANDBOX (cutbox-rows.mjs): the forced cells as the released guide's own fill.sh prints them over the translation 6fa84a64a5038102… (all of the seat's roots in one cut). By AI agents, Wed Nov 11 2026. No macro, syntax, notation, axiom, sorry.
-/
import Derived.Test.YtemgfbpjhidaeaaChecked
import GoSem.Claim
import GoSem.ClaimJoined
import GoSem.ClaimMapViews
import Derived.JoinedTies
import Derived.KernelRfl
namespace Go.Proofs.Ytemgfbpjhidaeaa
/- THE CELL 'sum', in the pinned program and in every row, IS THE sha256 OF THE DUMP (.gsa) THAT YtemgfbpjhidaeaaProg.lean LOADS. Nothing in Lean hashes anything: it is a label: what it is worth is what the hold of that sum in a sandbox is worth. -/
noncomputable def Try.pinned : Pinned := { name := "ytemgfbpjhidaeaa", sum := "6fa84a64a503810282a845369e133a0a8cd71bacff975e5fbf5d2aebdd9b55bc", checked := Try.checked }
namespace Rows
def none {H : Type} : Left H := { results := [], args := [] }

/-- 'laws.FnExactAddTo': WHATEVER THE INPUT: true; the input reads as it did. -/
def fnExactAddToSpec : ChangeSpec := { name := "fnExactAddTo", fn := fun _ => fun
  | [d1, d2, d3] => { results := [.lit (.bool true)], args := [d1, d2, d3] }
  | _ => none }
def fnExactAddToRow : OpenClaim := { program := "ytemgfbpjhidaeaa", sum := "6fa84a64a503810282a845369e133a0a8cd71bacff975e5fbf5d2aebdd9b55bc", func := "loop.example/g01278/laws.FnExactAddTo", spec := "fnExactAddTo", unfollowed := true, recurses := true, plainKeys := false, apart := false }
def FnExactAddToSaid : Prop := fnExactAddToRow.holds Try.pinned (OpenSpec.ofChange fnExactAddToSpec)

/-- ITS FALSE NEIGHBOUR: 'it returns false'. Refute it at one input. -/
def fnExactAddToWrong : ChangeSpec := { name := "fnExactAddTo", fn := fun _ => fun
  | [d1, d2, d3] => { results := [.lit (.bool false)], args := [d1, d2, d3] }
  | _ => none }
def FnExactAddToWrongFalsely : Prop := fnExactAddToRow.holds Try.pinned (OpenSpec.ofChange fnExactAddToWrong)

/-- 'laws.FnExactStepUp': WHATEVER THE INPUT: true; the input reads as it did. -/
def fnExactStepUpSpec : ChangeSpec := { name := "fnExactStepUp", fn := fun _ => fun
  | [d1, d2] => { results := [.lit (.bool true)], args := [d1, d2] }
  | _ => none }
def fnExactStepUpRow : OpenClaim := { program := "ytemgfbpjhidaeaa", sum := "6fa84a64a503810282a845369e133a0a8cd71bacff975e5fbf5d2aebdd9b55bc", func := "loop.example/g01278/laws.FnExactStepUp", spec := "fnExactStepUp", unfollowed := true, recurses := true, plainKeys := false, apart := false }
def FnExactStepUpSaid : Prop := fnExactStepUpRow.holds Try.pinned (OpenSpec.ofChange fnExactStepUpSpec)

/-- ITS FALSE NEIGHBOUR: 'it returns false'. Refute it at one input. -/
def fnExactStepUpWrong : ChangeSpec := { name := "fnExactStepUp", fn := fun _ => fun
  | [d1, d2] => { results := [.lit (.bool false)], args := [d1, d2] }
  | _ => none }
def FnExactStepUpWrongFalsely : Prop := fnExactStepUpRow.holds Try.pinned (OpenSpec.ofChange fnExactStepUpWrong)

/-- 'laws.FnExactStepDown': WHATEVER THE INPUT: true; the input reads as it did. -/
def fnExactStepDownSpec : ChangeSpec := { name := "fnExactStepDown", fn := fun _ => fun
  | [d1, d2] => { results := [.lit (.bool true)], args := [d1, d2] }
  | _ => none }
def fnExactStepDownRow : OpenClaim := { program := "ytemgfbpjhidaeaa", sum := "6fa84a64a503810282a845369e133a0a8cd71bacff975e5fbf5d2aebdd9b55bc", func := "loop.example/g01278/laws.FnExactStepDown", spec := "fnExactStepDown", unfollowed := true, recurses := true, plainKeys := false, apart := false }
def FnExactStepDownSaid : Prop := fnExactStepDownRow.holds Try.pinned (OpenSpec.ofChange fnExactStepDownSpec)

/-- ITS FALSE NEIGHBOUR: 'it returns false'. Refute it at one input. -/
def fnExactStepDownWrong : ChangeSpec := { name := "fnExactStepDown", fn := fun _ => fun
  | [d1, d2] => { results := [.lit (.bool false)], args := [d1, d2] }
  | _ => none }
def FnExactStepDownWrongFalsely : Prop := fnExactStepDownRow.holds Try.pinned (OpenSpec.ofChange fnExactStepDownWrong)

/-- 'laws.FnExactMovesOf': WHATEVER THE INPUT: true; the input reads as it did. -/
def fnExactMovesOfSpec : ChangeSpec := { name := "fnExactMovesOf", fn := fun _ => fun
  | [d1, d2, d3] => { results := [.lit (.bool true)], args := [d1, d2, d3] }
  | _ => none }
def fnExactMovesOfRow : OpenClaim := { program := "ytemgfbpjhidaeaa", sum := "6fa84a64a503810282a845369e133a0a8cd71bacff975e5fbf5d2aebdd9b55bc", func := "loop.example/g01278/laws.FnExactMovesOf", spec := "fnExactMovesOf", unfollowed := true, recurses := true, plainKeys := false, apart := false }
def FnExactMovesOfSaid : Prop := fnExactMovesOfRow.holds Try.pinned (OpenSpec.ofChange fnExactMovesOfSpec)

/-- ITS FALSE NEIGHBOUR: 'it returns false'. Refute it at one input. -/
def fnExactMovesOfWrong : ChangeSpec := { name := "fnExactMovesOf", fn := fun _ => fun
  | [d1, d2, d3] => { results := [.lit (.bool false)], args := [d1, d2, d3] }
  | _ => none }
def FnExactMovesOfWrongFalsely : Prop := fnExactMovesOfRow.holds Try.pinned (OpenSpec.ofChange fnExactMovesOfWrong)

/-- 'laws.FnExactWayTo': WHATEVER THE INPUT: true; the input reads as it did. -/
def fnExactWayToSpec : ChangeSpec := { name := "fnExactWayTo", fn := fun _ => fun
  | [d1, d2, d3] => { results := [.lit (.bool true)], args := [d1, d2, d3] }
  | _ => none }
def fnExactWayToRow : OpenClaim := { program := "ytemgfbpjhidaeaa", sum := "6fa84a64a503810282a845369e133a0a8cd71bacff975e5fbf5d2aebdd9b55bc", func := "loop.example/g01278/laws.FnExactWayTo", spec := "fnExactWayTo", unfollowed := true, recurses := true, plainKeys := false, apart := false }
def FnExactWayToSaid : Prop := fnExactWayToRow.holds Try.pinned (OpenSpec.ofChange fnExactWayToSpec)

/-- ITS FALSE NEIGHBOUR: 'it returns false'. Refute it at one input. -/
def fnExactWayToWrong : ChangeSpec := { name := "fnExactWayTo", fn := fun _ => fun
  | [d1, d2, d3] => { results := [.lit (.bool false)], args := [d1, d2, d3] }
  | _ => none }
def FnExactWayToWrongFalsely : Prop := fnExactWayToRow.holds Try.pinned (OpenSpec.ofChange fnExactWayToWrong)

/-- 'laws.FnExactCompareDigits': WHATEVER THE INPUT: true; the input reads as it did. -/
def fnExactCompareDigitsSpec : ChangeSpec := { name := "fnExactCompareDigits", fn := fun _ => fun
  | [d1, d2, d3] => { results := [.lit (.bool true)], args := [d1, d2, d3] }
  | _ => none }
def fnExactCompareDigitsRow : OpenClaim := { program := "ytemgfbpjhidaeaa", sum := "6fa84a64a503810282a845369e133a0a8cd71bacff975e5fbf5d2aebdd9b55bc", func := "loop.example/g01278/laws.FnExactCompareDigits", spec := "fnExactCompareDigits", unfollowed := true, recurses := true, plainKeys := false, apart := false }
def FnExactCompareDigitsSaid : Prop := fnExactCompareDigitsRow.holds Try.pinned (OpenSpec.ofChange fnExactCompareDigitsSpec)

/-- ITS FALSE NEIGHBOUR: 'it returns false'. Refute it at one input. -/
def fnExactCompareDigitsWrong : ChangeSpec := { name := "fnExactCompareDigits", fn := fun _ => fun
  | [d1, d2, d3] => { results := [.lit (.bool false)], args := [d1, d2, d3] }
  | _ => none }
def FnExactCompareDigitsWrongFalsely : Prop := fnExactCompareDigitsRow.holds Try.pinned (OpenSpec.ofChange fnExactCompareDigitsWrong)

/-- 'laws.FnExactLeastStack': WHATEVER THE INPUT: true; the input reads as it did. -/
def fnExactLeastStackSpec : ChangeSpec := { name := "fnExactLeastStack", fn := fun _ => fun
  | [d1, d2] => { results := [.lit (.bool true)], args := [d1, d2] }
  | _ => none }
def fnExactLeastStackRow : OpenClaim := { program := "ytemgfbpjhidaeaa", sum := "6fa84a64a503810282a845369e133a0a8cd71bacff975e5fbf5d2aebdd9b55bc", func := "loop.example/g01278/laws.FnExactLeastStack", spec := "fnExactLeastStack", plainKeys := false, apart := false }
def FnExactLeastStackSaid : Prop := fnExactLeastStackRow.holds Try.pinned (OpenSpec.ofChange fnExactLeastStackSpec)

/-- ITS FALSE NEIGHBOUR: 'it returns false'. Refute it at one input. -/
def fnExactLeastStackWrong : ChangeSpec := { name := "fnExactLeastStack", fn := fun _ => fun
  | [d1, d2] => { results := [.lit (.bool false)], args := [d1, d2] }
  | _ => none }
def FnExactLeastStackWrongFalsely : Prop := fnExactLeastStackRow.holds Try.pinned (OpenSpec.ofChange fnExactLeastStackWrong)

/- THE SECOND FORM. 'bulk': how many values and letters a reading holds, each counted each time it is reached (what is shared counts as often as it is met; a slice's spare places count too). A statement '..UptoSaid' is the law's where the arguments, and the package variables that the reading takes, are together of bulk at most 1048576: NARROWER than '..Said'. Prove '..Said' where nothing that the law and all that it calls make is longer than what came in: it says more and counts as full. Else prove '..UptoSaid'. A law counts once. -/
mutual
def uptoBulk {H : Type} : DataW H → Nat
  | .lit (.string bytes) => bytes.length + 1
  | .lit _ => 1
  | .nil => 1
  | .ptr d => uptoBulk d + 1
  | .slice elems spare => uptoBulkAll elems + uptoBulkAll spare + 1
  | .agg parts => uptoBulkAll parts + 1
  | .iface _ d => uptoBulk d + 1
  | .map entries => uptoBulkEntries entries + 1
  | .held _ => 1
def uptoBulkAll {H : Type} : List (DataW H) → Nat
  | [] => 0
  | d :: r => uptoBulk d + uptoBulkAll r
def uptoBulkEntries {H : Type} : List (Lit × DataW H) → Nat
  | [] => 0
  | x :: r => uptoBulkEntry x + uptoBulkEntries r
def uptoBulkEntry {H : Type} : Lit × DataW H → Nat
  | (.string bytes, d) => bytes.length + uptoBulk d + 1
  | (_, d) => uptoBulk d + 1
 end
def uptoSmall : (H : Type) → List (DataW H) → Bool := fun _ ds => decide (uptoBulkAll ds ≤ 1048576)
def OpenSpec.upto (s : _root_.Go.ChangeSpec) : _root_.Go.OpenSpec := { _root_.Go.OpenSpec.ofChange s with cond := some uptoSmall }

/-- 'laws.FnExactAddTo', WHERE WHAT IT READS IS OF BULK AT MOST 1048576: true; the input reads as it did. -/
def fnExactAddToUptoRow : OpenClaim := { program := "ytemgfbpjhidaeaa", sum := "6fa84a64a503810282a845369e133a0a8cd71bacff975e5fbf5d2aebdd9b55bc", func := "loop.example/g01278/laws.FnExactAddTo", spec := "fnExactAddTo", unfollowed := true, recurses := true, plainKeys := false, apart := false, narrowed := true }
def FnExactAddToUptoSaid : Prop := fnExactAddToUptoRow.holds Try.pinned (OpenSpec.upto fnExactAddToSpec)

/-- 'laws.FnExactStepUp', WHERE WHAT IT READS IS OF BULK AT MOST 1048576: true; the input reads as it did. -/
def fnExactStepUpUptoRow : OpenClaim := { program := "ytemgfbpjhidaeaa", sum := "6fa84a64a503810282a845369e133a0a8cd71bacff975e5fbf5d2aebdd9b55bc", func := "loop.example/g01278/laws.FnExactStepUp", spec := "fnExactStepUp", unfollowed := true, recurses := true, plainKeys := false, apart := false, narrowed := true }
def FnExactStepUpUptoSaid : Prop := fnExactStepUpUptoRow.holds Try.pinned (OpenSpec.upto fnExactStepUpSpec)

/-- 'laws.FnExactStepDown', WHERE WHAT IT READS IS OF BULK AT MOST 1048576: true; the input reads as it did. -/
def fnExactStepDownUptoRow : OpenClaim := { program := "ytemgfbpjhidaeaa", sum := "6fa84a64a503810282a845369e133a0a8cd71bacff975e5fbf5d2aebdd9b55bc", func := "loop.example/g01278/laws.FnExactStepDown", spec := "fnExactStepDown", unfollowed := true, recurses := true, plainKeys := false, apart := false, narrowed := true }
def FnExactStepDownUptoSaid : Prop := fnExactStepDownUptoRow.holds Try.pinned (OpenSpec.upto fnExactStepDownSpec)

/-- 'laws.FnExactMovesOf', WHERE WHAT IT READS IS OF BULK AT MOST 1048576: true; the input reads as it did. -/
def fnExactMovesOfUptoRow : OpenClaim := { program := "ytemgfbpjhidaeaa", sum := "6fa84a64a503810282a845369e133a0a8cd71bacff975e5fbf5d2aebdd9b55bc", func := "loop.example/g01278/laws.FnExactMovesOf", spec := "fnExactMovesOf", unfollowed := true, recurses := true, plainKeys := false, apart := false, narrowed := true }
def FnExactMovesOfUptoSaid : Prop := fnExactMovesOfUptoRow.holds Try.pinned (OpenSpec.upto fnExactMovesOfSpec)

/-- 'laws.FnExactWayTo', WHERE WHAT IT READS IS OF BULK AT MOST 1048576: true; the input reads as it did. -/
def fnExactWayToUptoRow : OpenClaim := { program := "ytemgfbpjhidaeaa", sum := "6fa84a64a503810282a845369e133a0a8cd71bacff975e5fbf5d2aebdd9b55bc", func := "loop.example/g01278/laws.FnExactWayTo", spec := "fnExactWayTo", unfollowed := true, recurses := true, plainKeys := false, apart := false, narrowed := true }
def FnExactWayToUptoSaid : Prop := fnExactWayToUptoRow.holds Try.pinned (OpenSpec.upto fnExactWayToSpec)

/-- 'laws.FnExactCompareDigits', WHERE WHAT IT READS IS OF BULK AT MOST 1048576: true; the input reads as it did. -/
def fnExactCompareDigitsUptoRow : OpenClaim := { program := "ytemgfbpjhidaeaa", sum := "6fa84a64a503810282a845369e133a0a8cd71bacff975e5fbf5d2aebdd9b55bc", func := "loop.example/g01278/laws.FnExactCompareDigits", spec := "fnExactCompareDigits", unfollowed := true, recurses := true, plainKeys := false, apart := false, narrowed := true }
def FnExactCompareDigitsUptoSaid : Prop := fnExactCompareDigitsUptoRow.holds Try.pinned (OpenSpec.upto fnExactCompareDigitsSpec)

/-- 'laws.FnExactLeastStack', WHERE WHAT IT READS IS OF BULK AT MOST 1048576: true; the input reads as it did. -/
def fnExactLeastStackUptoRow : OpenClaim := { program := "ytemgfbpjhidaeaa", sum := "6fa84a64a503810282a845369e133a0a8cd71bacff975e5fbf5d2aebdd9b55bc", func := "loop.example/g01278/laws.FnExactLeastStack", spec := "fnExactLeastStack", plainKeys := false, apart := false, narrowed := true }
def FnExactLeastStackUptoSaid : Prop := fnExactLeastStackUptoRow.holds Try.pinned (OpenSpec.upto fnExactLeastStackSpec)

end Rows
end Go.Proofs.Ytemgfbpjhidaeaa
