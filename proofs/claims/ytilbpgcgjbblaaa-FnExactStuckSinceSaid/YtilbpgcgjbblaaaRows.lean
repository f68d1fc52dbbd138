/-
  No cell of these rows narrows 'for every input' (looked for: loops, veiled, ifaces, maps, wideKeys, modest, calm, conditions, laid).
  DERIVED. THE GIVEN ROWS OF THIS SEAT. 3 by the template 'for every input the law returns true; each argument reads behind the call as it read before'; 0 by the template 'total and deterministic' (their statements: YtilbpgcgjbblaaaTotals.lean).
  GIVEN WITH THE SEED: the statements are not yours to turn. If you find one false, say at which input.
  Laid BY PROGRAM, IN A SANDBOX (cutbox-rows.mjs): the forced cells as the released guide's own fill.sh prints them over the translation 35e9ac3cc551e58a… (all of the seat's roots in one cut). By AI agents, Wed Nov 11 2026. No macro, syntax, notation, axiom, sorry.
-/
import Derived.Test.YtilbpgcgjbblaaaChecked
import GoSem.Claim
import GoSem.ClaimJoined
import GoSem.ClaimMapViews
import Derived.JoinedTies
import Derived.KernelRfl
namespace Go.Proofs.Ytilbpgcgjbblaaa
/- THE CELL 'sum', in the pinned program and in every row, IS THE sha256 OF THE DUMP (.gsa) THAT YtilbpgcgjbblaaaProg.lean LOADS. Nothing in Lean hashes anything: it is a label: what it is worth is what the hold of that sum in a sandbox is worth. -/
noncomputable def Try.pinned : Pinned := { name := "ytilbpgcgjbblaaa", sum := "35e9ac3cc551e58a0dcd6a5a383bfe0bc63ebdd3417ae3d6ec886cbff56254e0", checked := Try.checked }
namespace Rows
def none {H : Type} : Left H := { results := [], args := [] }

/-- 'laws.FnExactStuckSince': WHATEVER THE INPUT: true; the input reads as it did. -/
def fnExactStuckSinceSpec : ChangeSpec := { name := "fnExactStuckSince", fn := fun _ => fun
  | [d1, d2, d3] => { results := [.lit (.bool true)], args := [d1, d2, d3] }
  | _ => none }
def fnExactStuckSinceRow : OpenClaim := { program := "ytilbpgcgjbblaaa", sum := "35e9ac3cc551e58a0dcd6a5a383bfe0bc63ebdd3417ae3d6ec886cbff56254e0", func := "loop.example/g01278/laws.FnExactStuckSince", spec := "fnExactStuckSince", unfollowed := true, recurses := true, plainKeys := false, apart := false }
def FnExactStuckSinceSaid : Prop := fnExactStuckSinceRow.holds Try.pinned (OpenSpec.ofChange fnExactStuckSinceSpec)

/-- ITS FALSE NEIGHBOUR: 'it returns false'. Refute it at one input. -/
def fnExactStuckSinceWrong : ChangeSpec := { name := "fnExactStuckSince", fn := fun _ => fun
  | [d1, d2, d3] => { results := [.lit (.bool false)], args := [d1, d2, d3] }
  | _ => none }
def FnExactStuckSinceWrongFalsely : Prop := fnExactStuckSinceRow.holds Try.pinned (OpenSpec.ofChange fnExactStuckSinceWrong)

/-- 'laws.FnExactCheckStory': WHATEVER THE INPUT: true; the input reads as it did. -/
def fnExactCheckStorySpec : ChangeSpec := { name := "fnExactCheckStory", fn := fun _ => fun
  | [d1, d2, d3, d4] => { results := [.lit (.bool true)], args := [d1, d2, d3, d4] }
  | _ => none }
def fnExactCheckStoryRow : OpenClaim := { program := "ytilbpgcgjbblaaa", sum := "35e9ac3cc551e58a0dcd6a5a383bfe0bc63ebdd3417ae3d6ec886cbff56254e0", func := "loop.example/g01278/laws.FnExactCheckStory", spec := "fnExactCheckStory", unfollowed := true, recurses := true, plainKeys := false, apart := false }
def FnExactCheckStorySaid : Prop := fnExactCheckStoryRow.holds Try.pinned (OpenSpec.ofChange fnExactCheckStorySpec)

/-- ITS FALSE NEIGHBOUR: 'it returns false'. Refute it at one input. -/
def fnExactCheckStoryWrong : ChangeSpec := { name := "fnExactCheckStory", fn := fun _ => fun
  | [d1, d2, d3, d4] => { results := [.lit (.bool false)], args := [d1, d2, d3, d4] }
  | _ => none }
def FnExactCheckStoryWrongFalsely : Prop := fnExactCheckStoryRow.holds Try.pinned (OpenSpec.ofChange fnExactCheckStoryWrong)

/-- 'laws.FnExactTotalOfStory': WHATEVER THE INPUT: true; the input reads as it did. -/
def fnExactTotalOfStorySpec : ChangeSpec := { name := "fnExactTotalOfStory", fn := fun _ => fun
  | [d1, d2, d3, d4] => { results := [.lit (.bool true)], args := [d1, d2, d3, d4] }
  | _ => none }
def fnExactTotalOfStoryRow : OpenClaim := { program := "ytilbpgcgjbblaaa", sum := "35e9ac3cc551e58a0dcd6a5a383bfe0bc63ebdd3417ae3d6ec886cbff56254e0", func := "loop.example/g01278/laws.FnExactTotalOfStory", spec := "fnExactTotalOfStory", unfollowed := true, recurses := true, plainKeys := false, apart := false }
def FnExactTotalOfStorySaid : Prop := fnExactTotalOfStoryRow.holds Try.pinned (OpenSpec.ofChange fnExactTotalOfStorySpec)

/-- ITS FALSE NEIGHBOUR: 'it returns false'. Refute it at one input. -/
def fnExactTotalOfStoryWrong : ChangeSpec := { name := "fnExactTotalOfStory", fn := fun _ => fun
  | [d1, d2, d3, d4] => { results := [.lit (.bool false)], args := [d1, d2, d3, d4] }
  | _ => none }
def FnExactTotalOfStoryWrongFalsely : Prop := fnExactTotalOfStoryRow.holds Try.pinned (OpenSpec.ofChange fnExactTotalOfStoryWrong)

/- THE SECOND FORM. 'bulk': how many values and letters a reading holds, each counted each time it is reached (what is shared counts as often as it is met; a slice's spare places count too). A statement '..UptoSaid' is the law's where the arguments, and the package variables that the reading takes, are together of bulk at most 1048576: NARROWER than '..Said'. Prove '..Said' where nothing that the law and all that it calls make is longer than what came in: it says more and counts as full. Else prove '..UptoSaid'. A law counts once. -/
mutual
def uptoBulk {H : Type} : DataW H → Nat
  | .lit (.string bytes) => bytes.length + 1
  | .lit _ => 1
  | .nil => 1
  | .ptr d => uptoBulk d + 1
  | .slice elems spare => uptoBulkAll elems + uptoBulkAll spare + 1
  | .agg parts => uptoBulkAll parts + 1
  | .iface _ d => uptoBulk d + 1
  | .map entries => uptoBulkEntries entries + 1
  | .held _ => 1
def uptoBulkAll {H : Type} : List (DataW H) → Nat
  | [] => 0
  | d :: r => uptoBulk d + uptoBulkAll r
def uptoBulkEntries {H : Type} : List (Lit × DataW H) → Nat
  | [] => 0
  | x :: r => uptoBulkEntry x + uptoBulkEntries r
def uptoBulkEntry {H : Type} : Lit × DataW H → Nat
  | (.string bytes, d) => bytes.length + uptoBulk d + 1
  | (_, d) => uptoBulk d + 1
 end
def uptoSmall : (H : Type) → List (DataW H) → Bool := fun _ ds => decide (uptoBulkAll ds ≤ 1048576)
def OpenSpec.upto (s : _root_.Go.ChangeSpec) : _root_.Go.OpenSpec := { _root_.Go.OpenSpec.ofChange s with cond := some uptoSmall }

/-- 'laws.FnExactStuckSince', WHERE WHAT IT READS IS OF BULK AT MOST 1048576: true; the input reads as it did. -/
def fnExactStuckSinceUptoRow : OpenClaim := { program := "ytilbpgcgjbblaaa", sum := "35e9ac3cc551e58a0dcd6a5a383bfe0bc63ebdd3417ae3d6ec886cbff56254e0", func := "loop.example/g01278/laws.FnExactStuckSince", spec := "fnExactStuckSince", unfollowed := true, recurses := true, plainKeys := false, apart := false, narrowed := true }
def FnExactStuckSinceUptoSaid : Prop := fnExactStuckSinceUptoRow.holds Try.pinned (OpenSpec.upto fnExactStuckSinceSpec)

/-- 'laws.FnExactCheckStory', WHERE WHAT IT READS IS OF BULK AT MOST 1048576: true; the input reads as it did. -/
def fnExactCheckStoryUptoRow : OpenClaim := { program := "ytilbpgcgjbblaaa", sum := "35e9ac3cc551e58a0dcd6a5a383bfe0bc63ebdd3417ae3d6ec886cbff56254e0", func := "loop.example/g01278/laws.FnExactCheckStory", spec := "fnExactCheckStory", unfollowed := true, recurses := true, plainKeys := false, apart := false, narrowed := true }
def FnExactCheckStoryUptoSaid : Prop := fnExactCheckStoryUptoRow.holds Try.pinned (OpenSpec.upto fnExactCheckStorySpec)

/-- 'laws.FnExactTotalOfStory', WHERE WHAT IT READS IS OF BULK AT MOST 1048576: true; the input reads as it did. -/
def fnExactTotalOfStoryUptoRow : OpenClaim := { program := "ytilbpgcgjbblaaa", sum := "35e9ac3cc551e58a0dcd6a5a383bfe0bc63ebdd3417ae3d6ec886cbff56254e0", func := "loop.example/g01278/laws.FnExactTotalOfStory", spec := "fnExactTotalOfStory", unfollowed := true, recurses := true, plainKeys := false, apart := false, narrowed := true }
def FnExactTotalOfStoryUptoSaid : Prop := fnExactTotalOfStoryUptoRow.holds Try.pinned (OpenSpec.upto fnExactTotalOfStorySpec)

end Rows
end Go.Proofs.Ytilbpgcgjbblaaa
