/-
  No cell of these rows narrows 'for every input' (looked for: loops, veiled, ifaces, maps, wideKeys, modest, calm, conditions, laid).
  DERIVED. THE GIVEN ROWS OF THIS SEAT. 8 by the template 'for every input the law returns true; each argument reads behind the call as it read before'; 0 by the template 'total and deterministic' (their statements: YtangjgfjojfcaaaTotals.lean).
  GIVEN WITH THE SEED: the statements are not yours to turn. If you find one false, say at which input.
  Laid BY PROGRAM, IN A SANDBOX (cutbox-rows.mjs): the forced cells as the released guide's own fill.sh prints them over the translation aafc9713aa90e66c… (all of the seat's roots in one cut). By AI agents, Wed Nov 11 2026. No macro, syntax, notation, axiom, sorry.
-/
import Derived.Test.YtangjgfjojfcaaaChecked
import GoSem.Claim
import GoSem.ClaimJoined
import GoSem.ClaimMapViews
import Derived.JoinedTies
import Derived.KernelRfl
namespace Go.Proofs.Ytangjgfjojfcaaa
/- THE CELL 'sum', in the pinned program and in every row, IS THE sha256 OF THE DUMP (.gsa) THAT YtangjgfjojfcaaaProg.lean LOADS. Nothing in Lean hashes anything: it is a label: what it is worth is what the hold of that sum in a sandbox is worth. -/
noncomputable def Try.pinned : Pinned := { name := "ytangjgfjojfcaaa", sum := "aafc9713aa90e66cc62657257b975218ce2ad1d5aebea5e603fff0499da324df", checked := Try.checked }
namespace Rows
def none {H : Type} : Left H := { results := [], args := [] }

/-- 'laws.FnExactValidDevice': WHATEVER THE INPUT: true; the input reads as it did. -/
def fnExactValidDeviceSpec : ChangeSpec := { name := "fnExactValidDevice", fn := fun _ => fun
  | [d] => { results := [.lit (.bool true)], args := [d] }
  | _ => none }
def fnExactValidDeviceRow : OpenClaim := { program := "ytangjgfjojfcaaa", sum := "aafc9713aa90e66cc62657257b975218ce2ad1d5aebea5e603fff0499da324df", func := "loop.example/g01278/laws.FnExactValidDevice", spec := "fnExactValidDevice", unfollowed := true, recurses := true, apart := false }
def FnExactValidDeviceSaid : Prop := fnExactValidDeviceRow.holds Try.pinned (OpenSpec.ofChange fnExactValidDeviceSpec)

/-- ITS FALSE NEIGHBOUR: 'it returns false'. Refute it at one input. -/
def fnExactValidDeviceWrong : ChangeSpec := { name := "fnExactValidDevice", fn := fun _ => fun
  | [d] => { results := [.lit (.bool false)], args := [d] }
  | _ => none }
def FnExactValidDeviceWrongFalsely : Prop := fnExactValidDeviceRow.holds Try.pinned (OpenSpec.ofChange fnExactValidDeviceWrong)

/-- 'laws.FnExactSameDevice': WHATEVER THE INPUT: true; the input reads as it did. -/
def fnExactSameDeviceSpec : ChangeSpec := { name := "fnExactSameDevice", fn := fun _ => fun
  | [d1, d2] => { results := [.lit (.bool true)], args := [d1, d2] }
  | _ => none }
def fnExactSameDeviceRow : OpenClaim := { program := "ytangjgfjojfcaaa", sum := "aafc9713aa90e66cc62657257b975218ce2ad1d5aebea5e603fff0499da324df", func := "loop.example/g01278/laws.FnExactSameDevice", spec := "fnExactSameDevice", apart := false }
def FnExactSameDeviceSaid : Prop := fnExactSameDeviceRow.holds Try.pinned (OpenSpec.ofChange fnExactSameDeviceSpec)

/-- ITS FALSE NEIGHBOUR: 'it returns false'. Refute it at one input. -/
def fnExactSameDeviceWrong : ChangeSpec := { name := "fnExactSameDevice", fn := fun _ => fun
  | [d1, d2] => { results := [.lit (.bool false)], args := [d1, d2] }
  | _ => none }
def FnExactSameDeviceWrongFalsely : Prop := fnExactSameDeviceRow.holds Try.pinned (OpenSpec.ofChange fnExactSameDeviceWrong)

/-- 'laws.FnExactValidAct': WHATEVER THE INPUT: true; the input reads as it did. -/
def fnExactValidActSpec : ChangeSpec := { name := "fnExactValidAct", fn := fun _ => fun
  | [d] => { results := [.lit (.bool true)], args := [d] }
  | _ => none }
def fnExactValidActRow : OpenClaim := { program := "ytangjgfjojfcaaa", sum := "aafc9713aa90e66cc62657257b975218ce2ad1d5aebea5e603fff0499da324df", func := "loop.example/g01278/laws.FnExactValidAct", spec := "fnExactValidAct", apart := false }
def FnExactValidActSaid : Prop := fnExactValidActRow.holds Try.pinned (OpenSpec.ofChange fnExactValidActSpec)

/-- ITS FALSE NEIGHBOUR: 'it returns false'. Refute it at one input. -/
def fnExactValidActWrong : ChangeSpec := { name := "fnExactValidAct", fn := fun _ => fun
  | [d] => { results := [.lit (.bool false)], args := [d] }
  | _ => none }
def FnExactValidActWrongFalsely : Prop := fnExactValidActRow.holds Try.pinned (OpenSpec.ofChange fnExactValidActWrong)

/-- 'laws.FnExactNewDevice': WHATEVER THE INPUT: true; the input reads as it did. -/
def fnExactNewDeviceSpec : ChangeSpec := { name := "fnExactNewDevice", fn := fun _ => fun
  | [d] => { results := [.lit (.bool true)], args := [d] }
  | _ => none }
def fnExactNewDeviceRow : OpenClaim := { program := "ytangjgfjojfcaaa", sum := "aafc9713aa90e66cc62657257b975218ce2ad1d5aebea5e603fff0499da324df", func := "loop.example/g01278/laws.FnExactNewDevice", spec := "fnExactNewDevice", apart := false }
def FnExactNewDeviceSaid : Prop := fnExactNewDeviceRow.holds Try.pinned (OpenSpec.ofChange fnExactNewDeviceSpec)

/-- ITS FALSE NEIGHBOUR: 'it returns false'. Refute it at one input. -/
def fnExactNewDeviceWrong : ChangeSpec := { name := "fnExactNewDevice", fn := fun _ => fun
  | [d] => { results := [.lit (.bool false)], args := [d] }
  | _ => none }
def FnExactNewDeviceWrongFalsely : Prop := fnExactNewDeviceRow.holds Try.pinned (OpenSpec.ofChange fnExactNewDeviceWrong)

/-- 'laws.FnExactCheckOf': WHATEVER THE INPUT: true; the input reads as it did. -/
def fnExactCheckOfSpec : ChangeSpec := { name := "fnExactCheckOf", fn := fun _ => fun
  | [d1, d2, d3] => { results := [.lit (.bool true)], args := [d1, d2, d3] }
  | _ => none }
def fnExactCheckOfRow : OpenClaim := { program := "ytangjgfjojfcaaa", sum := "aafc9713aa90e66cc62657257b975218ce2ad1d5aebea5e603fff0499da324df", func := "loop.example/g01278/laws.FnExactCheckOf", spec := "fnExactCheckOf", apart := false }
def FnExactCheckOfSaid : Prop := fnExactCheckOfRow.holds Try.pinned (OpenSpec.ofChange fnExactCheckOfSpec)

/-- ITS FALSE NEIGHBOUR: 'it returns false'. Refute it at one input. -/
def fnExactCheckOfWrong : ChangeSpec := { name := "fnExactCheckOf", fn := fun _ => fun
  | [d1, d2, d3] => { results := [.lit (.bool false)], args := [d1, d2, d3] }
  | _ => none }
def FnExactCheckOfWrongFalsely : Prop := fnExactCheckOfRow.holds Try.pinned (OpenSpec.ofChange fnExactCheckOfWrong)

/-- 'laws.FnExactIsGenuine': WHATEVER THE INPUT: true; the input reads as it did. -/
def fnExactIsGenuineSpec : ChangeSpec := { name := "fnExactIsGenuine", fn := fun _ => fun
  | [d1, d2] => { results := [.lit (.bool true)], args := [d1, d2] }
  | _ => none }
def fnExactIsGenuineRow : OpenClaim := { program := "ytangjgfjojfcaaa", sum := "aafc9713aa90e66cc62657257b975218ce2ad1d5aebea5e603fff0499da324df", func := "loop.example/g01278/laws.FnExactIsGenuine", spec := "fnExactIsGenuine", apart := false }
def FnExactIsGenuineSaid : Prop := fnExactIsGenuineRow.holds Try.pinned (OpenSpec.ofChange fnExactIsGenuineSpec)

/-- ITS FALSE NEIGHBOUR: 'it returns false'. Refute it at one input. -/
def fnExactIsGenuineWrong : ChangeSpec := { name := "fnExactIsGenuine", fn := fun _ => fun
  | [d1, d2] => { results := [.lit (.bool false)], args := [d1, d2] }
  | _ => none }
def FnExactIsGenuineWrongFalsely : Prop := fnExactIsGenuineRow.holds Try.pinned (OpenSpec.ofChange fnExactIsGenuineWrong)

/-- 'laws.FnExactPulsesUntilStop': WHATEVER THE INPUT: true; the input reads as it did. -/
def fnExactPulsesUntilStopSpec : ChangeSpec := { name := "fnExactPulsesUntilStop", fn := fun _ => fun
  | [d] => { results := [.lit (.bool true)], args := [d] }
  | _ => none }
def fnExactPulsesUntilStopRow : OpenClaim := { program := "ytangjgfjojfcaaa", sum := "aafc9713aa90e66cc62657257b975218ce2ad1d5aebea5e603fff0499da324df", func := "loop.example/g01278/laws.FnExactPulsesUntilStop", spec := "fnExactPulsesUntilStop", unfollowed := true, recurses := true, apart := false }
def FnExactPulsesUntilStopSaid : Prop := fnExactPulsesUntilStopRow.holds Try.pinned (OpenSpec.ofChange fnExactPulsesUntilStopSpec)

/-- ITS FALSE NEIGHBOUR: 'it returns false'. Refute it at one input. -/
def fnExactPulsesUntilStopWrong : ChangeSpec := { name := "fnExactPulsesUntilStop", fn := fun _ => fun
  | [d] => { results := [.lit (.bool false)], args := [d] }
  | _ => none }
def FnExactPulsesUntilStopWrongFalsely : Prop := fnExactPulsesUntilStopRow.holds Try.pinned (OpenSpec.ofChange fnExactPulsesUntilStopWrong)

/-- 'laws.FnExactBatchActs': WHATEVER THE INPUT: true; the input reads as it did. -/
def fnExactBatchActsSpec : ChangeSpec := { name := "fnExactBatchActs", fn := fun _ => fun
  | [d1, d2, d3] => { results := [.lit (.bool true)], args := [d1, d2, d3] }
  | _ => none }
def fnExactBatchActsRow : OpenClaim := { program := "ytangjgfjojfcaaa", sum := "aafc9713aa90e66cc62657257b975218ce2ad1d5aebea5e603fff0499da324df", func := "loop.example/g01278/laws.FnExactBatchActs", spec := "fnExactBatchActs", unfollowed := true, recurses := true, apart := false }
def FnExactBatchActsSaid : Prop := fnExactBatchActsRow.holds Try.pinned (OpenSpec.ofChange fnExactBatchActsSpec)

/-- ITS FALSE NEIGHBOUR: 'it returns false'. Refute it at one input. -/
def fnExactBatchActsWrong : ChangeSpec := { name := "fnExactBatchActs", fn := fun _ => fun
  | [d1, d2, d3] => { results := [.lit (.bool false)], args := [d1, d2, d3] }
  | _ => none }
def FnExactBatchActsWrongFalsely : Prop := fnExactBatchActsRow.holds Try.pinned (OpenSpec.ofChange fnExactBatchActsWrong)

/- THE SECOND FORM. 'bulk': how many values and letters a reading holds, each counted each time it is reached (what is shared counts as often as it is met; a slice's spare places count too). A statement '..UptoSaid' is the law's where the arguments, and the package variables that the reading takes, are together of bulk at most 1048576: NARROWER than '..Said'. Prove '..Said' where nothing that the law and all that it calls make is longer than what came in: it says more and counts as full. Else prove '..UptoSaid'. A law counts once. -/
mutual
def uptoBulk {H : Type} : DataW H → Nat
  | .lit (.string bytes) => bytes.length + 1
  | .lit _ => 1
  | .nil => 1
  | .ptr d => uptoBulk d + 1
  | .slice elems spare => uptoBulkAll elems + uptoBulkAll spare + 1
  | .agg parts => uptoBulkAll parts + 1
  | .iface _ d => uptoBulk d + 1
  | .map entries => uptoBulkEntries entries + 1
  | .held _ => 1
def uptoBulkAll {H : Type} : List (DataW H) → Nat
  | [] => 0
  | d :: r => uptoBulk d + uptoBulkAll r
def uptoBulkEntries {H : Type} : List (Lit × DataW H) → Nat
  | [] => 0
  | x :: r => uptoBulkEntry x + uptoBulkEntries r
def uptoBulkEntry {H : Type} : Lit × DataW H → Nat
  | (.string bytes, d) => bytes.length + uptoBulk d + 1
  | (_, d) => uptoBulk d + 1
 end
def uptoSmall : (H : Type) → List (DataW H) → Bool := fun _ ds => decide (uptoBulkAll ds ≤ 1048576)
def OpenSpec.upto (s : _root_.Go.ChangeSpec) : _root_.Go.OpenSpec := { _root_.Go.OpenSpec.ofChange s with cond := some uptoSmall }

/-- 'laws.FnExactValidDevice', WHERE WHAT IT READS IS OF BULK AT MOST 1048576: true; the input reads as it did. -/
def fnExactValidDeviceUptoRow : OpenClaim := { program := "ytangjgfjojfcaaa", sum := "aafc9713aa90e66cc62657257b975218ce2ad1d5aebea5e603fff0499da324df", func := "loop.example/g01278/laws.FnExactValidDevice", spec := "fnExactValidDevice", unfollowed := true, recurses := true, apart := false, narrowed := true }
def FnExactValidDeviceUptoSaid : Prop := fnExactValidDeviceUptoRow.holds Try.pinned (OpenSpec.upto fnExactValidDeviceSpec)

/-- 'laws.FnExactSameDevice', WHERE WHAT IT READS IS OF BULK AT MOST 1048576: true; the input reads as it did. -/
def fnExactSameDeviceUptoRow : OpenClaim := { program := "ytangjgfjojfcaaa", sum := "aafc9713aa90e66cc62657257b975218ce2ad1d5aebea5e603fff0499da324df", func := "loop.example/g01278/laws.FnExactSameDevice", spec := "fnExactSameDevice", apart := false, narrowed := true }
def FnExactSameDeviceUptoSaid : Prop := fnExactSameDeviceUptoRow.holds Try.pinned (OpenSpec.upto fnExactSameDeviceSpec)

/-- 'laws.FnExactValidAct', WHERE WHAT IT READS IS OF BULK AT MOST 1048576: true; the input reads as it did. -/
def fnExactValidActUptoRow : OpenClaim := { program := "ytangjgfjojfcaaa", sum := "aafc9713aa90e66cc62657257b975218ce2ad1d5aebea5e603fff0499da324df", func := "loop.example/g01278/laws.FnExactValidAct", spec := "fnExactValidAct", apart := false, narrowed := true }
def FnExactValidActUptoSaid : Prop := fnExactValidActUptoRow.holds Try.pinned (OpenSpec.upto fnExactValidActSpec)

/-- 'laws.FnExactNewDevice', WHERE WHAT IT READS IS OF BULK AT MOST 1048576: true; the input reads as it did. -/
def fnExactNewDeviceUptoRow : OpenClaim := { program := "ytangjgfjojfcaaa", sum := "aafc9713aa90e66cc62657257b975218ce2ad1d5aebea5e603fff0499da324df", func := "loop.example/g01278/laws.FnExactNewDevice", spec := "fnExactNewDevice", apart := false, narrowed := true }
def FnExactNewDeviceUptoSaid : Prop := fnExactNewDeviceUptoRow.holds Try.pinned (OpenSpec.upto fnExactNewDeviceSpec)

/-- 'laws.FnExactCheckOf', WHERE WHAT IT READS IS OF BULK AT MOST 1048576: true; the input reads as it did. -/
def fnExactCheckOfUptoRow : OpenClaim := { program := "ytangjgfjojfcaaa", sum := "aafc9713aa90e66cc62657257b975218ce2ad1d5aebea5e603fff0499da324df", func := "loop.example/g01278/laws.FnExactCheckOf", spec := "fnExactCheckOf", apart := false, narrowed := true }
def FnExactCheckOfUptoSaid : Prop := fnExactCheckOfUptoRow.holds Try.pinned (OpenSpec.upto fnExactCheckOfSpec)

/-- 'laws.FnExactIsGenuine', WHERE WHAT IT READS IS OF BULK AT MOST 1048576: true; the input reads as it did. -/
def fnExactIsGenuineUptoRow : OpenClaim := { program := "ytangjgfjojfcaaa", sum := "aafc9713aa90e66cc62657257b975218ce2ad1d5aebea5e603fff0499da324df", func := "loop.example/g01278/laws.FnExactIsGenuine", spec := "fnExactIsGenuine", apart := false, narrowed := true }
def FnExactIsGenuineUptoSaid : Prop := fnExactIsGenuineUptoRow.holds Try.pinned (OpenSpec.upto fnExactIsGenuineSpec)

/-- 'laws.FnExactPulsesUntilStop', WHERE WHAT IT READS IS OF BULK AT MOST 1048576: true; the input reads as it did. -/
def fnExactPulsesUntilStopUptoRow : OpenClaim := { program := "ytangjgfjojfcaaa", sum := "aafc9713aa90e66cc62657257b975218ce2ad1d5aebea5e603fff0499da324df", func := "loop.example/g01278/laws.FnExactPulsesUntilStop", spec := "fnExactPulsesUntilStop", unfollowed := true, recurses := true, apart := false, narrowed := true }
def FnExactPulsesUntilStopUptoSaid : Prop := fnExactPulsesUntilStopUptoRow.holds Try.pinned (OpenSpec.upto fnExactPulsesUntilStopSpec)

/-- 'laws.FnExactBatchActs', WHERE WHAT IT READS IS OF BULK AT MOST 1048576: true; the input reads as it did. -/
def fnExactBatchActsUptoRow : OpenClaim := { program := "ytangjgfjojfcaaa", sum := "aafc9713aa90e66cc62657257b975218ce2ad1d5aebea5e603fff0499da324df", func := "loop.example/g01278/laws.FnExactBatchActs", spec := "fnExactBatchActs", unfollowed := true, recurses := true, apart := false, narrowed := true }
def FnExactBatchActsUptoSaid : Prop := fnExactBatchActsUptoRow.holds Try.pinned (OpenSpec.upto fnExactBatchActsSpec)

end Rows
end Go.Proofs.Ytangjgfjojfcaaa
