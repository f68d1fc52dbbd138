/-
  NARROWER THAN 'FOR EVERY INPUT', by the rows' own cells (each row's printed sentence says how): FnExactDoAct: ifaces, laid · FnExactDoActs: ifaces, laid · FnExactPrintTicket: ifaces, laid · FnExactTicketsOf: ifaces, laid · FnExactJournalOf: ifaces, laid · FnExactFirstWrong: ifaces, laid.
  DERIVED. THE GIVEN ROWS OF THIS SEAT. 6 by the template 'for every input the law returns true; each argument reads behind the call as it read before'; 0 by the template 'total and deterministic' (their statements: YthifegbmpmialaaDoorTotals.lean).
  GIVEN WITH THE SEED: the statements are not yours to turn. If you find one false, say at which input.
  Laid BY PROGRAM, IN A SANDBOX (cutbox-rows.mjs): the forced cells as the released guide's own fill.sh prints them over the translation 0e608857b3fcc459… (all of the seat's roots in one cut). By AI agents, Wed Nov 11 2026. No macro, syntax, notation, axiom, sorry.
-/
import Derived.Test.YthifegbmpmialaaDoorChecked
import GoSem.Claim
import GoSem.ClaimJoined
import GoSem.ClaimMapViews
import Derived.JoinedTies
import Derived.KernelRfl
namespace Go.Proofs.YthifegbmpmialaaDoor
/- THE CELL 'sum', in the pinned program and in every row, IS THE sha256 OF THE DUMP (.gsa) THAT YthifegbmpmialaaDoorProg.lean LOADS. Nothing in Lean hashes anything: it is a label: what it is worth is what the hold of that sum in a sandbox is worth. -/
noncomputable def Tryd.pinned : Pinned := { name := "ythifegbmpmialaadoor", sum := "0e608857b3fcc459d80f0cf4464be91755013a1f091db7bf05354b6d2625ccd0", checked := Tryd.checked }
namespace Rows
def none {H : Type} : Left H := { results := [], args := [] }

/- WHAT THE LISTED PACKAGE-LEVEL VARIABLES READ AS WHEN THE CALL BEGINS. Each datum BY PROGRAM (the guide's laid-datum.mjs) off the statement by which the dump's own 'gosem.cut.vars' lays the variable. In a bare row this is a premise. The card (YthifegbmpmialaaDoorCards.lean) ties it to the program's text. -/
def laid_loop_example_g01278_impl_errInvalid {H : Type} : DataW H := .iface "*errors.errorString" (.ptr (.agg [.lit (.string [97, 32, 100, 101, 118, 105, 99, 101, 32, 111, 114, 32, 97, 110, 32, 97, 99, 116, 32, 105, 115, 32, 110, 111, 116, 32, 118, 97, 108, 105, 100])]))
def laid_loop_example_g01278_impl_errLimit {H : Type} : DataW H := .iface "*errors.errorString" (.ptr (.agg [.lit (.string [116, 104, 101, 114, 101, 32, 97, 114, 101, 32, 116, 111, 111, 32, 109, 97, 110, 121, 32, 97, 99, 116, 115])]))
def laid_loop_example_g01278_impl_errRange {H : Type} : DataW H := .iface "*errors.errorString" (.ptr (.agg [.lit (.string [97, 32, 112, 114, 101, 115, 101, 116, 32, 111, 114, 32, 97, 32, 115, 117, 109, 32, 105, 115, 32, 116, 111, 111, 32, 103, 114, 101, 97, 116])]))
def laid_loop_example_g01278_impl_errState {H : Type} : DataW H := .iface "*errors.errorString" (.ptr (.agg [.lit (.string [116, 104, 101, 114, 101, 32, 97, 114, 101, 32, 110, 111, 32, 109, 111, 114, 101, 32, 116, 105, 99, 107, 101, 116, 115])]))

/-- 'laws.FnExactDoAct': WHATEVER THE INPUT: true; the input reads as it did. -/
def fnExactDoActSpec : ChangeSpec := { name := "fnExactDoAct", vars := ["loop.example/g01278/impl.errInvalid", "loop.example/g01278/impl.errRange", "loop.example/g01278/impl.errLimit", "loop.example/g01278/impl.errState"], fn := fun _ => fun
  | [d1, d2, g1, g2, g3, g4] => { results := [.lit (.bool true)], args := [d1, d2], vars := [g1, g2, g3, g4] }
  | _ => none }
def fnExactDoActRow : OpenClaim := { program := "ythifegbmpmialaadoor", sum := "0e608857b3fcc459d80f0cf4464be91755013a1f091db7bf05354b6d2625ccd0", func := "loop.example/g01278/laws.FnExactDoAct", spec := "fnExactDoAct", inPlace := ["internal/reflectlite.TypeOf"], unfollowed := true, recurses := true, named := ["loop.example/g01278/impl.errInvalid", "loop.example/g01278/impl.errRange", "loop.example/g01278/impl.errLimit", "loop.example/g01278/impl.errState"], ifaces := true, apart := false, laid := [("loop.example/g01278/impl.errInvalid", laid_loop_example_g01278_impl_errInvalid), ("loop.example/g01278/impl.errLimit", laid_loop_example_g01278_impl_errLimit), ("loop.example/g01278/impl.errRange", laid_loop_example_g01278_impl_errRange), ("loop.example/g01278/impl.errState", laid_loop_example_g01278_impl_errState)] }
def FnExactDoActSaid : Prop := fnExactDoActRow.holds Tryd.pinned (OpenSpec.ofChange fnExactDoActSpec)

/-- ITS FALSE NEIGHBOUR: 'it returns false'. Refute it at one input. -/
def fnExactDoActWrong : ChangeSpec := { name := "fnExactDoAct", vars := ["loop.example/g01278/impl.errInvalid", "loop.example/g01278/impl.errRange", "loop.example/g01278/impl.errLimit", "loop.example/g01278/impl.errState"], fn := fun _ => fun
  | [d1, d2, g1, g2, g3, g4] => { results := [.lit (.bool false)], args := [d1, d2], vars := [g1, g2, g3, g4] }
  | _ => none }
def FnExactDoActWrongFalsely : Prop := fnExactDoActRow.holds Tryd.pinned (OpenSpec.ofChange fnExactDoActWrong)

/-- 'laws.FnExactDoActs': WHATEVER THE INPUT: true; the input reads as it did. -/
def fnExactDoActsSpec : ChangeSpec := { name := "fnExactDoActs", vars := ["loop.example/g01278/impl.errInvalid", "loop.example/g01278/impl.errRange", "loop.example/g01278/impl.errLimit", "loop.example/g01278/impl.errState"], fn := fun _ => fun
  | [d1, d2, g1, g2, g3, g4] => { results := [.lit (.bool true)], args := [d1, d2], vars := [g1, g2, g3, g4] }
  | _ => none }
def fnExactDoActsRow : OpenClaim := { program := "ythifegbmpmialaadoor", sum := "0e608857b3fcc459d80f0cf4464be91755013a1f091db7bf05354b6d2625ccd0", func := "loop.example/g01278/laws.FnExactDoActs", spec := "fnExactDoActs", inPlace := ["internal/reflectlite.TypeOf"], unfollowed := true, recurses := true, named := ["loop.example/g01278/impl.errInvalid", "loop.example/g01278/impl.errRange", "loop.example/g01278/impl.errLimit", "loop.example/g01278/impl.errState"], ifaces := true, apart := false, laid := [("loop.example/g01278/impl.errInvalid", laid_loop_example_g01278_impl_errInvalid), ("loop.example/g01278/impl.errLimit", laid_loop_example_g01278_impl_errLimit), ("loop.example/g01278/impl.errRange", laid_loop_example_g01278_impl_errRange), ("loop.example/g01278/impl.errState", laid_loop_example_g01278_impl_errState)] }
def FnExactDoActsSaid : Prop := fnExactDoActsRow.holds Tryd.pinned (OpenSpec.ofChange fnExactDoActsSpec)

/-- ITS FALSE NEIGHBOUR: 'it returns false'. Refute it at one input. -/
def fnExactDoActsWrong : ChangeSpec := { name := "fnExactDoActs", vars := ["loop.example/g01278/impl.errInvalid", "loop.example/g01278/impl.errRange", "loop.example/g01278/impl.errLimit", "loop.example/g01278/impl.errState"], fn := fun _ => fun
  | [d1, d2, g1, g2, g3, g4] => { results := [.lit (.bool false)], args := [d1, d2], vars := [g1, g2, g3, g4] }
  | _ => none }
def FnExactDoActsWrongFalsely : Prop := fnExactDoActsRow.holds Tryd.pinned (OpenSpec.ofChange fnExactDoActsWrong)

/-- 'laws.FnExactPrintTicket': WHATEVER THE INPUT: true; the input reads as it did. -/
def fnExactPrintTicketSpec : ChangeSpec := { name := "fnExactPrintTicket", vars := ["loop.example/g01278/impl.errInvalid", "loop.example/g01278/impl.errRange", "loop.example/g01278/impl.errLimit", "loop.example/g01278/impl.errState"], fn := fun _ => fun
  | [d, g1, g2, g3, g4] => { results := [.lit (.bool true)], args := [d], vars := [g1, g2, g3, g4] }
  | _ => none }
def fnExactPrintTicketRow : OpenClaim := { program := "ythifegbmpmialaadoor", sum := "0e608857b3fcc459d80f0cf4464be91755013a1f091db7bf05354b6d2625ccd0", func := "loop.example/g01278/laws.FnExactPrintTicket", spec := "fnExactPrintTicket", inPlace := ["internal/reflectlite.TypeOf"], unfollowed := true, recurses := true, named := ["loop.example/g01278/impl.errInvalid", "loop.example/g01278/impl.errRange", "loop.example/g01278/impl.errLimit", "loop.example/g01278/impl.errState"], ifaces := true, apart := false, laid := [("loop.example/g01278/impl.errInvalid", laid_loop_example_g01278_impl_errInvalid), ("loop.example/g01278/impl.errLimit", laid_loop_example_g01278_impl_errLimit), ("loop.example/g01278/impl.errRange", laid_loop_example_g01278_impl_errRange), ("loop.example/g01278/impl.errState", laid_loop_example_g01278_impl_errState)] }
def FnExactPrintTicketSaid : Prop := fnExactPrintTicketRow.holds Tryd.pinned (OpenSpec.ofChange fnExactPrintTicketSpec)

/-- ITS FALSE NEIGHBOUR: 'it returns false'. Refute it at one input. -/
def fnExactPrintTicketWrong : ChangeSpec := { name := "fnExactPrintTicket", vars := ["loop.example/g01278/impl.errInvalid", "loop.example/g01278/impl.errRange", "loop.example/g01278/impl.errLimit", "loop.example/g01278/impl.errState"], fn := fun _ => fun
  | [d, g1, g2, g3, g4] => { results := [.lit (.bool false)], args := [d], vars := [g1, g2, g3, g4] }
  | _ => none }
def FnExactPrintTicketWrongFalsely : Prop := fnExactPrintTicketRow.holds Tryd.pinned (OpenSpec.ofChange fnExactPrintTicketWrong)

/-- 'laws.FnExactTicketsOf': WHATEVER THE INPUT: true; the input reads as it did. -/
def fnExactTicketsOfSpec : ChangeSpec := { name := "fnExactTicketsOf", vars := ["loop.example/g01278/impl.errInvalid", "loop.example/g01278/impl.errRange", "loop.example/g01278/impl.errLimit", "loop.example/g01278/impl.errState"], fn := fun _ => fun
  | [d1, d2, g1, g2, g3, g4] => { results := [.lit (.bool true)], args := [d1, d2], vars := [g1, g2, g3, g4] }
  | _ => none }
def fnExactTicketsOfRow : OpenClaim := { program := "ythifegbmpmialaadoor", sum := "0e608857b3fcc459d80f0cf4464be91755013a1f091db7bf05354b6d2625ccd0", func := "loop.example/g01278/laws.FnExactTicketsOf", spec := "fnExactTicketsOf", inPlace := ["internal/reflectlite.TypeOf"], unfollowed := true, recurses := true, named := ["loop.example/g01278/impl.errInvalid", "loop.example/g01278/impl.errRange", "loop.example/g01278/impl.errLimit", "loop.example/g01278/impl.errState"], ifaces := true, apart := false, laid := [("loop.example/g01278/impl.errInvalid", laid_loop_example_g01278_impl_errInvalid), ("loop.example/g01278/impl.errLimit", laid_loop_example_g01278_impl_errLimit), ("loop.example/g01278/impl.errRange", laid_loop_example_g01278_impl_errRange), ("loop.example/g01278/impl.errState", laid_loop_example_g01278_impl_errState)] }
def FnExactTicketsOfSaid : Prop := fnExactTicketsOfRow.holds Tryd.pinned (OpenSpec.ofChange fnExactTicketsOfSpec)

/-- ITS FALSE NEIGHBOUR: 'it returns false'. Refute it at one input. -/
def fnExactTicketsOfWrong : ChangeSpec := { name := "fnExactTicketsOf", vars := ["loop.example/g01278/impl.errInvalid", "loop.example/g01278/impl.errRange", "loop.example/g01278/impl.errLimit", "loop.example/g01278/impl.errState"], fn := fun _ => fun
  | [d1, d2, g1, g2, g3, g4] => { results := [.lit (.bool false)], args := [d1, d2], vars := [g1, g2, g3, g4] }
  | _ => none }
def FnExactTicketsOfWrongFalsely : Prop := fnExactTicketsOfRow.holds Tryd.pinned (OpenSpec.ofChange fnExactTicketsOfWrong)

/-- 'laws.FnExactJournalOf': WHATEVER THE INPUT: true; the input reads as it did. -/
def fnExactJournalOfSpec : ChangeSpec := { name := "fnExactJournalOf", vars := ["loop.example/g01278/impl.errInvalid", "loop.example/g01278/impl.errRange", "loop.example/g01278/impl.errLimit", "loop.example/g01278/impl.errState"], fn := fun _ => fun
  | [d1, d2, g1, g2, g3, g4] => { results := [.lit (.bool true)], args := [d1, d2], vars := [g1, g2, g3, g4] }
  | _ => none }
def fnExactJournalOfRow : OpenClaim := { program := "ythifegbmpmialaadoor", sum := "0e608857b3fcc459d80f0cf4464be91755013a1f091db7bf05354b6d2625ccd0", func := "loop.example/g01278/laws.FnExactJournalOf", spec := "fnExactJournalOf", inPlace := ["internal/reflectlite.TypeOf"], unfollowed := true, recurses := true, named := ["loop.example/g01278/impl.errInvalid", "loop.example/g01278/impl.errRange", "loop.example/g01278/impl.errLimit", "loop.example/g01278/impl.errState"], ifaces := true, apart := false, laid := [("loop.example/g01278/impl.errInvalid", laid_loop_example_g01278_impl_errInvalid), ("loop.example/g01278/impl.errLimit", laid_loop_example_g01278_impl_errLimit), ("loop.example/g01278/impl.errRange", laid_loop_example_g01278_impl_errRange), ("loop.example/g01278/impl.errState", laid_loop_example_g01278_impl_errState)] }
def FnExactJournalOfSaid : Prop := fnExactJournalOfRow.holds Tryd.pinned (OpenSpec.ofChange fnExactJournalOfSpec)

/-- ITS FALSE NEIGHBOUR: 'it returns false'. Refute it at one input. -/
def fnExactJournalOfWrong : ChangeSpec := { name := "fnExactJournalOf", vars := ["loop.example/g01278/impl.errInvalid", "loop.example/g01278/impl.errRange", "loop.example/g01278/impl.errLimit", "loop.example/g01278/impl.errState"], fn := fun _ => fun
  | [d1, d2, g1, g2, g3, g4] => { results := [.lit (.bool false)], args := [d1, d2], vars := [g1, g2, g3, g4] }
  | _ => none }
def FnExactJournalOfWrongFalsely : Prop := fnExactJournalOfRow.holds Tryd.pinned (OpenSpec.ofChange fnExactJournalOfWrong)

/-- 'laws.FnExactFirstWrong': WHATEVER THE INPUT: true; the input reads as it did. -/
def fnExactFirstWrongSpec : ChangeSpec := { name := "fnExactFirstWrong", vars := ["loop.example/g01278/impl.errInvalid"], fn := fun _ => fun
  | [d1, d2, g1] => { results := [.lit (.bool true)], args := [d1, d2], vars := [g1] }
  | _ => none }
def fnExactFirstWrongRow : OpenClaim := { program := "ythifegbmpmialaadoor", sum := "0e608857b3fcc459d80f0cf4464be91755013a1f091db7bf05354b6d2625ccd0", func := "loop.example/g01278/laws.FnExactFirstWrong", spec := "fnExactFirstWrong", unfollowed := true, recurses := true, named := ["loop.example/g01278/impl.errInvalid"], ifaces := true, apart := false, laid := [("loop.example/g01278/impl.errInvalid", laid_loop_example_g01278_impl_errInvalid)] }
def FnExactFirstWrongSaid : Prop := fnExactFirstWrongRow.holds Tryd.pinned (OpenSpec.ofChange fnExactFirstWrongSpec)

/-- ITS FALSE NEIGHBOUR: 'it returns false'. Refute it at one input. -/
def fnExactFirstWrongWrong : ChangeSpec := { name := "fnExactFirstWrong", vars := ["loop.example/g01278/impl.errInvalid"], fn := fun _ => fun
  | [d1, d2, g1] => { results := [.lit (.bool false)], args := [d1, d2], vars := [g1] }
  | _ => none }
def FnExactFirstWrongWrongFalsely : Prop := fnExactFirstWrongRow.holds Tryd.pinned (OpenSpec.ofChange fnExactFirstWrongWrong)

/- THE SECOND FORM. 'bulk': how many values and letters a reading holds, each counted each time it is reached (what is shared counts as often as it is met; a slice's spare places count too). A statement '..UptoSaid' is the law's where the arguments, and the package variables that the reading takes, are together of bulk at most 1048576: NARROWER than '..Said'. Prove '..Said' where nothing that the law and all that it calls make is longer than what came in: it says more and counts as full. Else prove '..UptoSaid'. A law counts once. -/
mutual
def uptoBulk {H : Type} : DataW H → Nat
  | .lit (.string bytes) => bytes.length + 1
  | .lit _ => 1
  | .nil => 1
  | .ptr d => uptoBulk d + 1
  | .slice elems spare => uptoBulkAll elems + uptoBulkAll spare + 1
  | .agg parts => uptoBulkAll parts + 1
  | .iface _ d => uptoBulk d + 1
  | .map entries => uptoBulkEntries entries + 1
  | .held _ => 1
def uptoBulkAll {H : Type} : List (DataW H) → Nat
  | [] => 0
  | d :: r => uptoBulk d + uptoBulkAll r
def uptoBulkEntries {H : Type} : List (Lit × DataW H) → Nat
  | [] => 0
  | x :: r => uptoBulkEntry x + uptoBulkEntries r
def uptoBulkEntry {H : Type} : Lit × DataW H → Nat
  | (.string bytes, d) => bytes.length + uptoBulk d + 1
  | (_, d) => uptoBulk d + 1
 end
def uptoSmall : (H : Type) → List (DataW H) → Bool := fun _ ds => decide (uptoBulkAll ds ≤ 1048576)
def OpenSpec.upto (s : _root_.Go.ChangeSpec) : _root_.Go.OpenSpec := { _root_.Go.OpenSpec.ofChange s with cond := some uptoSmall }

/-- 'laws.FnExactDoAct', WHERE WHAT IT READS IS OF BULK AT MOST 1048576: true; the input reads as it did. -/
def fnExactDoActUptoRow : OpenClaim := { program := "ythifegbmpmialaadoor", sum := "0e608857b3fcc459d80f0cf4464be91755013a1f091db7bf05354b6d2625ccd0", func := "loop.example/g01278/laws.FnExactDoAct", spec := "fnExactDoAct", inPlace := ["internal/reflectlite.TypeOf"], unfollowed := true, recurses := true, named := ["loop.example/g01278/impl.errInvalid", "loop.example/g01278/impl.errRange", "loop.example/g01278/impl.errLimit", "loop.example/g01278/impl.errState"], ifaces := true, apart := false, laid := [("loop.example/g01278/impl.errInvalid", laid_loop_example_g01278_impl_errInvalid), ("loop.example/g01278/impl.errLimit", laid_loop_example_g01278_impl_errLimit), ("loop.example/g01278/impl.errRange", laid_loop_example_g01278_impl_errRange), ("loop.example/g01278/impl.errState", laid_loop_example_g01278_impl_errState)], narrowed := true }
def FnExactDoActUptoSaid : Prop := fnExactDoActUptoRow.holds Tryd.pinned (OpenSpec.upto fnExactDoActSpec)

/-- 'laws.FnExactDoActs', WHERE WHAT IT READS IS OF BULK AT MOST 1048576: true; the input reads as it did. -/
def fnExactDoActsUptoRow : OpenClaim := { program := "ythifegbmpmialaadoor", sum := "0e608857b3fcc459d80f0cf4464be91755013a1f091db7bf05354b6d2625ccd0", func := "loop.example/g01278/laws.FnExactDoActs", spec := "fnExactDoActs", inPlace := ["internal/reflectlite.TypeOf"], unfollowed := true, recurses := true, named := ["loop.example/g01278/impl.errInvalid", "loop.example/g01278/impl.errRange", "loop.example/g01278/impl.errLimit", "loop.example/g01278/impl.errState"], ifaces := true, apart := false, laid := [("loop.example/g01278/impl.errInvalid", laid_loop_example_g01278_impl_errInvalid), ("loop.example/g01278/impl.errLimit", laid_loop_example_g01278_impl_errLimit), ("loop.example/g01278/impl.errRange", laid_loop_example_g01278_impl_errRange), ("loop.example/g01278/impl.errState", laid_loop_example_g01278_impl_errState)], narrowed := true }
def FnExactDoActsUptoSaid : Prop := fnExactDoActsUptoRow.holds Tryd.pinned (OpenSpec.upto fnExactDoActsSpec)

/-- 'laws.FnExactPrintTicket', WHERE WHAT IT READS IS OF BULK AT MOST 1048576: true; the input reads as it did. -/
def fnExactPrintTicketUptoRow : OpenClaim := { program := "ythifegbmpmialaadoor", sum := "0e608857b3fcc459d80f0cf4464be91755013a1f091db7bf05354b6d2625ccd0", func := "loop.example/g01278/laws.FnExactPrintTicket", spec := "fnExactPrintTicket", inPlace := ["internal/reflectlite.TypeOf"], unfollowed := true, recurses := true, named := ["loop.example/g01278/impl.errInvalid", "loop.example/g01278/impl.errRange", "loop.example/g01278/impl.errLimit", "loop.example/g01278/impl.errState"], ifaces := true, apart := false, laid := [("loop.example/g01278/impl.errInvalid", laid_loop_example_g01278_impl_errInvalid), ("loop.example/g01278/impl.errLimit", laid_loop_example_g01278_impl_errLimit), ("loop.example/g01278/impl.errRange", laid_loop_example_g01278_impl_errRange), ("loop.example/g01278/impl.errState", laid_loop_example_g01278_impl_errState)], narrowed := true }
def FnExactPrintTicketUptoSaid : Prop := fnExactPrintTicketUptoRow.holds Tryd.pinned (OpenSpec.upto fnExactPrintTicketSpec)

/-- 'laws.FnExactTicketsOf', WHERE WHAT IT READS IS OF BULK AT MOST 1048576: true; the input reads as it did. -/
def fnExactTicketsOfUptoRow : OpenClaim := { program := "ythifegbmpmialaadoor", sum := "0e608857b3fcc459d80f0cf4464be91755013a1f091db7bf05354b6d2625ccd0", func := "loop.example/g01278/laws.FnExactTicketsOf", spec := "fnExactTicketsOf", inPlace := ["internal/reflectlite.TypeOf"], unfollowed := true, recurses := true, named := ["loop.example/g01278/impl.errInvalid", "loop.example/g01278/impl.errRange", "loop.example/g01278/impl.errLimit", "loop.example/g01278/impl.errState"], ifaces := true, apart := false, laid := [("loop.example/g01278/impl.errInvalid", laid_loop_example_g01278_impl_errInvalid), ("loop.example/g01278/impl.errLimit", laid_loop_example_g01278_impl_errLimit), ("loop.example/g01278/impl.errRange", laid_loop_example_g01278_impl_errRange), ("loop.example/g01278/impl.errState", laid_loop_example_g01278_impl_errState)], narrowed := true }
def FnExactTicketsOfUptoSaid : Prop := fnExactTicketsOfUptoRow.holds Tryd.pinned (OpenSpec.upto fnExactTicketsOfSpec)

/-- 'laws.FnExactJournalOf', WHERE WHAT IT READS IS OF BULK AT MOST 1048576: true; the input reads as it did. -/
def fnExactJournalOfUptoRow : OpenClaim := { program := "ythifegbmpmialaadoor", sum := "0e608857b3fcc459d80f0cf4464be91755013a1f091db7bf05354b6d2625ccd0", func := "loop.example/g01278/laws.FnExactJournalOf", spec := "fnExactJournalOf", inPlace := ["internal/reflectlite.TypeOf"], unfollowed := true, recurses := true, named := ["loop.example/g01278/impl.errInvalid", "loop.example/g01278/impl.errRange", "loop.example/g01278/impl.errLimit", "loop.example/g01278/impl.errState"], ifaces := true, apart := false, laid := [("loop.example/g01278/impl.errInvalid", laid_loop_example_g01278_impl_errInvalid), ("loop.example/g01278/impl.errLimit", laid_loop_example_g01278_impl_errLimit), ("loop.example/g01278/impl.errRange", laid_loop_example_g01278_impl_errRange), ("loop.example/g01278/impl.errState", laid_loop_example_g01278_impl_errState)], narrowed := true }
def FnExactJournalOfUptoSaid : Prop := fnExactJournalOfUptoRow.holds Tryd.pinned (OpenSpec.upto fnExactJournalOfSpec)

/-- 'laws.FnExactFirstWrong', WHERE WHAT IT READS IS OF BULK AT MOST 1048576: true; the input reads as it did. -/
def fnExactFirstWrongUptoRow : OpenClaim := { program := "ythifegbmpmialaadoor", sum := "0e608857b3fcc459d80f0cf4464be91755013a1f091db7bf05354b6d2625ccd0", func := "loop.example/g01278/laws.FnExactFirstWrong", spec := "fnExactFirstWrong", unfollowed := true, recurses := true, named := ["loop.example/g01278/impl.errInvalid"], ifaces := true, apart := false, laid := [("loop.example/g01278/impl.errInvalid", laid_loop_example_g01278_impl_errInvalid)], narrowed := true }
def FnExactFirstWrongUptoSaid : Prop := fnExactFirstWrongUptoRow.holds Tryd.pinned (OpenSpec.upto fnExactFirstWrongSpec)

end Rows
end Go.Proofs.YthifegbmpmialaaDoor
