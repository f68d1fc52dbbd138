/-
  NARROWER THAN 'FOR EVERY INPUT', by the rows' own cells (each row's printed sentence says how): FnExactShortActs: ifaces, laid.
  DERIVED. THE GIVEN ROWS OF THIS SEAT. 1 by the template 'for every input the law returns true; each argument reads behind the call as it read before'; 0 by the template 'total and deterministic' (their statements: YtbbdaamhajecfaaDoorTotals.lean).
  GIVEN WITH THE SEED: the statements are not yours to turn. If you find one false, say at which input.
  Laid BY PROGRAM, IN A SANDBOX (cutbox-rows.mjs): the forced cells as the released guide's own fill.sh prints them over the translation 033a2a8c48a218ad… (all of the seat's roots in one cut). By AI agents, Wed Nov 11 2026. No macro, syntax, notation, axiom, sorry.
-/
import Derived.Test.YtbbdaamhajecfaaDoorChecked
import GoSem.Claim
import GoSem.ClaimJoined
import GoSem.ClaimMapViews
import Derived.JoinedTies
import Derived.KernelRfl
namespace Go.Proofs.YtbbdaamhajecfaaDoor
/- THE CELL 'sum', in the pinned program and in every row, IS THE sha256 OF THE DUMP (.gsa) THAT YtbbdaamhajecfaaDoorProg.lean LOADS. Nothing in Lean hashes anything: it is a label: what it is worth is what the hold of that sum in a sandbox is worth. -/
noncomputable def Tryd.pinned : Pinned := { name := "ytbbdaamhajecfaadoor", sum := "033a2a8c48a218ad500832efb84c7a5a3f3e61daa6c904947194fee7c2b01274", checked := Tryd.checked }
namespace Rows
def none {H : Type} : Left H := { results := [], args := [] }

/- WHAT THE LISTED PACKAGE-LEVEL VARIABLES READ AS WHEN THE CALL BEGINS. Each datum BY PROGRAM (the guide's laid-datum.mjs) off the statement by which the dump's own 'gosem.cut.vars' lays the variable. In a bare row this is a premise. The card (YtbbdaamhajecfaaDoorCards.lean) ties it to the program's text. -/
def laid_loop_example_g01278_impl_errInvalid {H : Type} : DataW H := .iface "*errors.errorString" (.ptr (.agg [.lit (.string [97, 32, 100, 101, 118, 105, 99, 101, 32, 111, 114, 32, 97, 110, 32, 97, 99, 116, 32, 105, 115, 32, 110, 111, 116, 32, 118, 97, 108, 105, 100])]))
def laid_loop_example_g01278_impl_errLimit {H : Type} : DataW H := .iface "*errors.errorString" (.ptr (.agg [.lit (.string [116, 104, 101, 114, 101, 32, 97, 114, 101, 32, 116, 111, 111, 32, 109, 97, 110, 121, 32, 97, 99, 116, 115])]))
def laid_loop_example_g01278_impl_errRange {H : Type} : DataW H := .iface "*errors.errorString" (.ptr (.agg [.lit (.string [97, 32, 112, 114, 101, 115, 101, 116, 32, 111, 114, 32, 97, 32, 115, 117, 109, 32, 105, 115, 32, 116, 111, 111, 32, 103, 114, 101, 97, 116])]))
def laid_loop_example_g01278_impl_errState {H : Type} : DataW H := .iface "*errors.errorString" (.ptr (.agg [.lit (.string [116, 104, 101, 114, 101, 32, 97, 114, 101, 32, 110, 111, 32, 109, 111, 114, 101, 32, 116, 105, 99, 107, 101, 116, 115])]))

/-- 'laws.FnExactShortActs': WHATEVER THE INPUT: true; the input reads as it did. -/
def fnExactShortActsSpec : ChangeSpec := { name := "fnExactShortActs", vars := ["loop.example/g01278/impl.errInvalid", "loop.example/g01278/impl.errLimit", "loop.example/g01278/impl.errRange", "loop.example/g01278/impl.errState"], fn := fun _ => fun
  | [d, g1, g2, g3, g4] => { results := [.lit (.bool true)], args := [d], vars := [g1, g2, g3, g4] }
  | _ => none }
def fnExactShortActsRow : OpenClaim := { program := "ytbbdaamhajecfaadoor", sum := "033a2a8c48a218ad500832efb84c7a5a3f3e61daa6c904947194fee7c2b01274", func := "loop.example/g01278/laws.FnExactShortActs", spec := "fnExactShortActs", inPlace := ["internal/reflectlite.TypeOf"], unfollowed := true, recurses := true, named := ["loop.example/g01278/impl.errInvalid", "loop.example/g01278/impl.errLimit", "loop.example/g01278/impl.errRange", "loop.example/g01278/impl.errState"], ifaces := true, apart := false, laid := [("loop.example/g01278/impl.errInvalid", laid_loop_example_g01278_impl_errInvalid), ("loop.example/g01278/impl.errLimit", laid_loop_example_g01278_impl_errLimit), ("loop.example/g01278/impl.errRange", laid_loop_example_g01278_impl_errRange), ("loop.example/g01278/impl.errState", laid_loop_example_g01278_impl_errState)] }
def FnExactShortActsSaid : Prop := fnExactShortActsRow.holds Tryd.pinned (OpenSpec.ofChange fnExactShortActsSpec)

/-- ITS FALSE NEIGHBOUR: 'it returns false'. Refute it at one input. -/
def fnExactShortActsWrong : ChangeSpec := { name := "fnExactShortActs", vars := ["loop.example/g01278/impl.errInvalid", "loop.example/g01278/impl.errLimit", "loop.example/g01278/impl.errRange", "loop.example/g01278/impl.errState"], fn := fun _ => fun
  | [d, g1, g2, g3, g4] => { results := [.lit (.bool false)], args := [d], vars := [g1, g2, g3, g4] }
  | _ => none }
def FnExactShortActsWrongFalsely : Prop := fnExactShortActsRow.holds Tryd.pinned (OpenSpec.ofChange fnExactShortActsWrong)

/- THE SECOND FORM. 'bulk': how many values and letters a reading holds, each counted each time it is reached (what is shared counts as often as it is met; a slice's spare places count too). A statement '..UptoSaid' is the law's where the arguments, and the package variables that the reading takes, are together of bulk at most 1048576: NARROWER than '..Said'. Prove '..Said' where nothing that the law and all that it calls make is longer than what came in: it says more and counts as full. Else prove '..UptoSaid'. A law counts once. -/
mutual
def uptoBulk {H : Type} : DataW H → Nat
  | .lit (.string bytes) => bytes.length + 1
  | .lit _ => 1
  | .nil => 1
  | .ptr d => uptoBulk d + 1
  | .slice elems spare => uptoBulkAll elems + uptoBulkAll spare + 1
  | .agg parts => uptoBulkAll parts + 1
  | .iface _ d => uptoBulk d + 1
  | .map entries => uptoBulkEntries entries + 1
  | .held _ => 1
def uptoBulkAll {H : Type} : List (DataW H) → Nat
  | [] => 0
  | d :: r => uptoBulk d + uptoBulkAll r
def uptoBulkEntries {H : Type} : List (Lit × DataW H) → Nat
  | [] => 0
  | x :: r => uptoBulkEntry x + uptoBulkEntries r
def uptoBulkEntry {H : Type} : Lit × DataW H → Nat
  | (.string bytes, d) => bytes.length + uptoBulk d + 1
  | (_, d) => uptoBulk d + 1
 end
def uptoSmall : (H : Type) → List (DataW H) → Bool := fun _ ds => decide (uptoBulkAll ds ≤ 1048576)
def OpenSpec.upto (s : _root_.Go.ChangeSpec) : _root_.Go.OpenSpec := { _root_.Go.OpenSpec.ofChange s with cond := some uptoSmall }

/-- 'laws.FnExactShortActs', WHERE WHAT IT READS IS OF BULK AT MOST 1048576: true; the input reads as it did. -/
def fnExactShortActsUptoRow : OpenClaim := { program := "ytbbdaamhajecfaadoor", sum := "033a2a8c48a218ad500832efb84c7a5a3f3e61daa6c904947194fee7c2b01274", func := "loop.example/g01278/laws.FnExactShortActs", spec := "fnExactShortActs", inPlace := ["internal/reflectlite.TypeOf"], unfollowed := true, recurses := true, named := ["loop.example/g01278/impl.errInvalid", "loop.example/g01278/impl.errLimit", "loop.example/g01278/impl.errRange", "loop.example/g01278/impl.errState"], ifaces := true, apart := false, laid := [("loop.example/g01278/impl.errInvalid", laid_loop_example_g01278_impl_errInvalid), ("loop.example/g01278/impl.errLimit", laid_loop_example_g01278_impl_errLimit), ("loop.example/g01278/impl.errRange", laid_loop_example_g01278_impl_errRange), ("loop.example/g01278/impl.errState", laid_loop_example_g01278_impl_errState)], narrowed := true }
def FnExactShortActsUptoSaid : Prop := fnExactShortActsUptoRow.holds Tryd.pinned (OpenSpec.upto fnExactShortActsSpec)

end Rows
end Go.Proofs.YtbbdaamhajecfaaDoor
