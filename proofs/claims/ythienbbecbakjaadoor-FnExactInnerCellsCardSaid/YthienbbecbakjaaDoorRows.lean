/-
  NARROWER THAN 'FOR EVERY INPUT', by the rows' own cells (each row's printed sentence says how): FnExactSpreadCells: ifaces, laid · FnExactSpreadSteps: ifaces, laid · FnExactInnerCells: ifaces, laid · FnExactHasForerunner: ifaces, laid · FnExactLongestPast: ifaces, laid.
  DERIVED. THE GIVEN ROWS OF THIS SEAT. 5 by the template 'for every input the law returns true; each argument reads behind the call as it read before'; 0 by the template 'total and deterministic' (their statements: YthienbbecbakjaaDoorTotals.lean).
  GIVEN WITH THE SEED: the statements are not yours to turn. If you find one false, say at which input.
  Laid BY PROGRAM, IN A SANDBOX (cutbox-rows.mjs): the forced cells as the released guide's own fill.sh prints them over the translation c391656e0f693956… (all of the seat's roots in one cut). By AI agents, Wed Nov 11 2026. No macro, syntax, notation, axiom, sorry.
-/
import Derived.Test.YthienbbecbakjaaDoorChecked
import GoSem.Claim
import GoSem.ClaimJoined
import GoSem.ClaimMapViews
import Derived.JoinedTies
import Derived.KernelRfl
namespace Go.Proofs.YthienbbecbakjaaDoor
/- THE CELL 'sum', in the pinned program and in every row, IS THE sha256 OF THE DUMP (.gsa) THAT YthienbbecbakjaaDoorProg.lean LOADS. Nothing in Lean hashes anything: it is a label: what it is worth is what the hold of that sum in a sandbox is worth. -/
noncomputable def Tryd.pinned : Pinned := { name := "ythienbbecbakjaadoor", sum := "c391656e0f6939569e3e9a213880c7fc32f7d9be9dd71943b5a62de7ffaba6bc", checked := Tryd.checked }
namespace Rows
def none {H : Type} : Left H := { results := [], args := [] }

/- WHAT THE LISTED PACKAGE-LEVEL VARIABLES READ AS WHEN THE CALL BEGINS. Each datum BY PROGRAM (the guide's laid-datum.mjs) off the statement by which the dump's own 'gosem.cut.vars' lays the variable. In a bare row this is a premise. The card (YthienbbecbakjaaDoorCards.lean) ties it to the program's text. -/
def laid_loop_example_g01360_impl_errInvalid {H : Type} : DataW H := .iface "*errors.errorString" (.ptr (.agg [.lit (.string [105, 110, 118, 97, 108, 105, 100])]))
def laid_loop_example_g01360_impl_errRange {H : Type} : DataW H := .iface "*errors.errorString" (.ptr (.agg [.lit (.string [114, 97, 110, 103, 101])]))
def laid_loop_example_g01360_impl_errLimit {H : Type} : DataW H := .iface "*errors.errorString" (.ptr (.agg [.lit (.string [108, 105, 109, 105, 116])]))
def laid_loop_example_g01360_impl_errState {H : Type} : DataW H := .iface "*errors.errorString" (.ptr (.agg [.lit (.string [115, 116, 97, 116, 101])]))
def laid_loop_example_g01360_impl_errSyntax {H : Type} : DataW H := .iface "*errors.errorString" (.ptr (.agg [.lit (.string [115, 121, 110, 116, 97, 120])]))
def laid_loop_example_g01360_impl_errBudget {H : Type} : DataW H := .iface "*errors.errorString" (.ptr (.agg [.lit (.string [98, 117, 100, 103, 101, 116])]))

/-- 'laws.FnExactSpreadCells': WHATEVER THE INPUT: true; the input reads as it did. -/
def fnExactSpreadCellsSpec : ChangeSpec := { name := "fnExactSpreadCells", vars := ["loop.example/g01360/impl.errRange", "loop.example/g01360/impl.errInvalid", "loop.example/g01360/impl.errLimit", "loop.example/g01360/impl.errState", "loop.example/g01360/impl.errSyntax", "loop.example/g01360/impl.errBudget"], fn := fun _ => fun
  | [d1, d2, g1, g2, g3, g4, g5, g6] => { results := [.lit (.bool true)], args := [d1, d2], vars := [g1, g2, g3, g4, g5, g6] }
  | _ => none }
def fnExactSpreadCellsRow : OpenClaim := { program := "ythienbbecbakjaadoor", sum := "c391656e0f6939569e3e9a213880c7fc32f7d9be9dd71943b5a62de7ffaba6bc", func := "loop.example/g01360/laws.FnExactSpreadCells", spec := "fnExactSpreadCells", inPlace := ["internal/reflectlite.TypeOf"], unfollowed := true, recurses := true, named := ["loop.example/g01360/impl.errRange", "loop.example/g01360/impl.errInvalid", "loop.example/g01360/impl.errLimit", "loop.example/g01360/impl.errState", "loop.example/g01360/impl.errSyntax", "loop.example/g01360/impl.errBudget"], ifaces := true, apart := false, laid := [("loop.example/g01360/impl.errInvalid", laid_loop_example_g01360_impl_errInvalid), ("loop.example/g01360/impl.errRange", laid_loop_example_g01360_impl_errRange), ("loop.example/g01360/impl.errLimit", laid_loop_example_g01360_impl_errLimit), ("loop.example/g01360/impl.errState", laid_loop_example_g01360_impl_errState), ("loop.example/g01360/impl.errSyntax", laid_loop_example_g01360_impl_errSyntax), ("loop.example/g01360/impl.errBudget", laid_loop_example_g01360_impl_errBudget)] }
def FnExactSpreadCellsSaid : Prop := fnExactSpreadCellsRow.holds Tryd.pinned (OpenSpec.ofChange fnExactSpreadCellsSpec)

/-- ITS FALSE NEIGHBOUR: 'it returns false'. Refute it at one input. -/
def fnExactSpreadCellsWrong : ChangeSpec := { name := "fnExactSpreadCells", vars := ["loop.example/g01360/impl.errRange", "loop.example/g01360/impl.errInvalid", "loop.example/g01360/impl.errLimit", "loop.example/g01360/impl.errState", "loop.example/g01360/impl.errSyntax", "loop.example/g01360/impl.errBudget"], fn := fun _ => fun
  | [d1, d2, g1, g2, g3, g4, g5, g6] => { results := [.lit (.bool false)], args := [d1, d2], vars := [g1, g2, g3, g4, g5, g6] }
  | _ => none }
def FnExactSpreadCellsWrongFalsely : Prop := fnExactSpreadCellsRow.holds Tryd.pinned (OpenSpec.ofChange fnExactSpreadCellsWrong)

/-- 'laws.FnExactSpreadSteps': WHATEVER THE INPUT: true; the input reads as it did. -/
def fnExactSpreadStepsSpec : ChangeSpec := { name := "fnExactSpreadSteps", vars := ["loop.example/g01360/impl.errRange", "loop.example/g01360/impl.errInvalid", "loop.example/g01360/impl.errLimit", "loop.example/g01360/impl.errState", "loop.example/g01360/impl.errSyntax", "loop.example/g01360/impl.errBudget"], fn := fun _ => fun
  | [d1, d2, d3, g1, g2, g3, g4, g5, g6] => { results := [.lit (.bool true)], args := [d1, d2, d3], vars := [g1, g2, g3, g4, g5, g6] }
  | _ => none }
def fnExactSpreadStepsRow : OpenClaim := { program := "ythienbbecbakjaadoor", sum := "c391656e0f6939569e3e9a213880c7fc32f7d9be9dd71943b5a62de7ffaba6bc", func := "loop.example/g01360/laws.FnExactSpreadSteps", spec := "fnExactSpreadSteps", inPlace := ["internal/reflectlite.TypeOf"], unfollowed := true, recurses := true, named := ["loop.example/g01360/impl.errRange", "loop.example/g01360/impl.errInvalid", "loop.example/g01360/impl.errLimit", "loop.example/g01360/impl.errState", "loop.example/g01360/impl.errSyntax", "loop.example/g01360/impl.errBudget"], ifaces := true, apart := false, laid := [("loop.example/g01360/impl.errInvalid", laid_loop_example_g01360_impl_errInvalid), ("loop.example/g01360/impl.errRange", laid_loop_example_g01360_impl_errRange), ("loop.example/g01360/impl.errLimit", laid_loop_example_g01360_impl_errLimit), ("loop.example/g01360/impl.errState", laid_loop_example_g01360_impl_errState), ("loop.example/g01360/impl.errSyntax", laid_loop_example_g01360_impl_errSyntax), ("loop.example/g01360/impl.errBudget", laid_loop_example_g01360_impl_errBudget)] }
def FnExactSpreadStepsSaid : Prop := fnExactSpreadStepsRow.holds Tryd.pinned (OpenSpec.ofChange fnExactSpreadStepsSpec)

/-- ITS FALSE NEIGHBOUR: 'it returns false'. Refute it at one input. -/
def fnExactSpreadStepsWrong : ChangeSpec := { name := "fnExactSpreadSteps", vars := ["loop.example/g01360/impl.errRange", "loop.example/g01360/impl.errInvalid", "loop.example/g01360/impl.errLimit", "loop.example/g01360/impl.errState", "loop.example/g01360/impl.errSyntax", "loop.example/g01360/impl.errBudget"], fn := fun _ => fun
  | [d1, d2, d3, g1, g2, g3, g4, g5, g6] => { results := [.lit (.bool false)], args := [d1, d2, d3], vars := [g1, g2, g3, g4, g5, g6] }
  | _ => none }
def FnExactSpreadStepsWrongFalsely : Prop := fnExactSpreadStepsRow.holds Tryd.pinned (OpenSpec.ofChange fnExactSpreadStepsWrong)

/-- 'laws.FnExactInnerCells': WHATEVER THE INPUT: true; the input reads as it did. -/
def fnExactInnerCellsSpec : ChangeSpec := { name := "fnExactInnerCells", vars := ["loop.example/g01360/impl.errRange", "loop.example/g01360/impl.errInvalid", "loop.example/g01360/impl.errLimit", "loop.example/g01360/impl.errState", "loop.example/g01360/impl.errSyntax", "loop.example/g01360/impl.errBudget"], fn := fun _ => fun
  | [d1, d2, g1, g2, g3, g4, g5, g6] => { results := [.lit (.bool true)], args := [d1, d2], vars := [g1, g2, g3, g4, g5, g6] }
  | _ => none }
def fnExactInnerCellsRow : OpenClaim := { program := "ythienbbecbakjaadoor", sum := "c391656e0f6939569e3e9a213880c7fc32f7d9be9dd71943b5a62de7ffaba6bc", func := "loop.example/g01360/laws.FnExactInnerCells", spec := "fnExactInnerCells", inPlace := ["internal/reflectlite.TypeOf"], unfollowed := true, recurses := true, named := ["loop.example/g01360/impl.errRange", "loop.example/g01360/impl.errInvalid", "loop.example/g01360/impl.errLimit", "loop.example/g01360/impl.errState", "loop.example/g01360/impl.errSyntax", "loop.example/g01360/impl.errBudget"], ifaces := true, apart := false, laid := [("loop.example/g01360/impl.errInvalid", laid_loop_example_g01360_impl_errInvalid), ("loop.example/g01360/impl.errRange", laid_loop_example_g01360_impl_errRange), ("loop.example/g01360/impl.errLimit", laid_loop_example_g01360_impl_errLimit), ("loop.example/g01360/impl.errState", laid_loop_example_g01360_impl_errState), ("loop.example/g01360/impl.errSyntax", laid_loop_example_g01360_impl_errSyntax), ("loop.example/g01360/impl.errBudget", laid_loop_example_g01360_impl_errBudget)] }
def FnExactInnerCellsSaid : Prop := fnExactInnerCellsRow.holds Tryd.pinned (OpenSpec.ofChange fnExactInnerCellsSpec)

/-- ITS FALSE NEIGHBOUR: 'it returns false'. Refute it at one input. -/
def fnExactInnerCellsWrong : ChangeSpec := { name := "fnExactInnerCells", vars := ["loop.example/g01360/impl.errRange", "loop.example/g01360/impl.errInvalid", "loop.example/g01360/impl.errLimit", "loop.example/g01360/impl.errState", "loop.example/g01360/impl.errSyntax", "loop.example/g01360/impl.errBudget"], fn := fun _ => fun
  | [d1, d2, g1, g2, g3, g4, g5, g6] => { results := [.lit (.bool false)], args := [d1, d2], vars := [g1, g2, g3, g4, g5, g6] }
  | _ => none }
def FnExactInnerCellsWrongFalsely : Prop := fnExactInnerCellsRow.holds Tryd.pinned (OpenSpec.ofChange fnExactInnerCellsWrong)

/-- 'laws.FnExactHasForerunner': WHATEVER THE INPUT: true; the input reads as it did. -/
def fnExactHasForerunnerSpec : ChangeSpec := { name := "fnExactHasForerunner", vars := ["loop.example/g01360/impl.errState", "loop.example/g01360/impl.errRange", "loop.example/g01360/impl.errInvalid", "loop.example/g01360/impl.errLimit", "loop.example/g01360/impl.errSyntax", "loop.example/g01360/impl.errBudget"], fn := fun _ => fun
  | [d1, d2, g1, g2, g3, g4, g5, g6] => { results := [.lit (.bool true)], args := [d1, d2], vars := [g1, g2, g3, g4, g5, g6] }
  | _ => none }
def fnExactHasForerunnerRow : OpenClaim := { program := "ythienbbecbakjaadoor", sum := "c391656e0f6939569e3e9a213880c7fc32f7d9be9dd71943b5a62de7ffaba6bc", func := "loop.example/g01360/laws.FnExactHasForerunner", spec := "fnExactHasForerunner", inPlace := ["internal/reflectlite.TypeOf"], unfollowed := true, recurses := true, named := ["loop.example/g01360/impl.errState", "loop.example/g01360/impl.errRange", "loop.example/g01360/impl.errInvalid", "loop.example/g01360/impl.errLimit", "loop.example/g01360/impl.errSyntax", "loop.example/g01360/impl.errBudget"], ifaces := true, apart := false, laid := [("loop.example/g01360/impl.errInvalid", laid_loop_example_g01360_impl_errInvalid), ("loop.example/g01360/impl.errRange", laid_loop_example_g01360_impl_errRange), ("loop.example/g01360/impl.errLimit", laid_loop_example_g01360_impl_errLimit), ("loop.example/g01360/impl.errState", laid_loop_example_g01360_impl_errState), ("loop.example/g01360/impl.errSyntax", laid_loop_example_g01360_impl_errSyntax), ("loop.example/g01360/impl.errBudget", laid_loop_example_g01360_impl_errBudget)] }
def FnExactHasForerunnerSaid : Prop := fnExactHasForerunnerRow.holds Tryd.pinned (OpenSpec.ofChange fnExactHasForerunnerSpec)

/-- ITS FALSE NEIGHBOUR: 'it returns false'. Refute it at one input. -/
def fnExactHasForerunnerWrong : ChangeSpec := { name := "fnExactHasForerunner", vars := ["loop.example/g01360/impl.errState", "loop.example/g01360/impl.errRange", "loop.example/g01360/impl.errInvalid", "loop.example/g01360/impl.errLimit", "loop.example/g01360/impl.errSyntax", "loop.example/g01360/impl.errBudget"], fn := fun _ => fun
  | [d1, d2, g1, g2, g3, g4, g5, g6] => { results := [.lit (.bool false)], args := [d1, d2], vars := [g1, g2, g3, g4, g5, g6] }
  | _ => none }
def FnExactHasForerunnerWrongFalsely : Prop := fnExactHasForerunnerRow.holds Tryd.pinned (OpenSpec.ofChange fnExactHasForerunnerWrong)

/-- 'laws.FnExactLongestPast': WHATEVER THE INPUT: true; the input reads as it did. -/
def fnExactLongestPastSpec : ChangeSpec := { name := "fnExactLongestPast", vars := ["loop.example/g01360/impl.errState", "loop.example/g01360/impl.errRange", "loop.example/g01360/impl.errInvalid", "loop.example/g01360/impl.errLimit", "loop.example/g01360/impl.errSyntax", "loop.example/g01360/impl.errBudget"], fn := fun _ => fun
  | [d1, d2, g1, g2, g3, g4, g5, g6] => { results := [.lit (.bool true)], args := [d1, d2], vars := [g1, g2, g3, g4, g5, g6] }
  | _ => none }
def fnExactLongestPastRow : OpenClaim := { program := "ythienbbecbakjaadoor", sum := "c391656e0f6939569e3e9a213880c7fc32f7d9be9dd71943b5a62de7ffaba6bc", func := "loop.example/g01360/laws.FnExactLongestPast", spec := "fnExactLongestPast", inPlace := ["internal/reflectlite.TypeOf"], unfollowed := true, recurses := true, named := ["loop.example/g01360/impl.errState", "loop.example/g01360/impl.errRange", "loop.example/g01360/impl.errInvalid", "loop.example/g01360/impl.errLimit", "loop.example/g01360/impl.errSyntax", "loop.example/g01360/impl.errBudget"], ifaces := true, apart := false, laid := [("loop.example/g01360/impl.errInvalid", laid_loop_example_g01360_impl_errInvalid), ("loop.example/g01360/impl.errRange", laid_loop_example_g01360_impl_errRange), ("loop.example/g01360/impl.errLimit", laid_loop_example_g01360_impl_errLimit), ("loop.example/g01360/impl.errState", laid_loop_example_g01360_impl_errState), ("loop.example/g01360/impl.errSyntax", laid_loop_example_g01360_impl_errSyntax), ("loop.example/g01360/impl.errBudget", laid_loop_example_g01360_impl_errBudget)] }
def FnExactLongestPastSaid : Prop := fnExactLongestPastRow.holds Tryd.pinned (OpenSpec.ofChange fnExactLongestPastSpec)

/-- ITS FALSE NEIGHBOUR: 'it returns false'. Refute it at one input. -/
def fnExactLongestPastWrong : ChangeSpec := { name := "fnExactLongestPast", vars := ["loop.example/g01360/impl.errState", "loop.example/g01360/impl.errRange", "loop.example/g01360/impl.errInvalid", "loop.example/g01360/impl.errLimit", "loop.example/g01360/impl.errSyntax", "loop.example/g01360/impl.errBudget"], fn := fun _ => fun
  | [d1, d2, g1, g2, g3, g4, g5, g6] => { results := [.lit (.bool false)], args := [d1, d2], vars := [g1, g2, g3, g4, g5, g6] }
  | _ => none }
def FnExactLongestPastWrongFalsely : Prop := fnExactLongestPastRow.holds Tryd.pinned (OpenSpec.ofChange fnExactLongestPastWrong)

/- THE SECOND FORM. 'bulk': how many values and letters a reading holds, each counted each time it is reached (what is shared counts as often as it is met; a slice's spare places count too). A statement '..UptoSaid' is the law's where the arguments, and the package variables that the reading takes, are together of bulk at most 1048576: NARROWER than '..Said'. Prove '..Said' where nothing that the law and all that it calls make is longer than what came in: it says more and counts as full. Else prove '..UptoSaid'. A law counts once. -/
mutual
def uptoBulk {H : Type} : DataW H → Nat
  | .lit (.string bytes) => bytes.length + 1
  | .lit _ => 1
  | .nil => 1
  | .ptr d => uptoBulk d + 1
  | .slice elems spare => uptoBulkAll elems + uptoBulkAll spare + 1
  | .agg parts => uptoBulkAll parts + 1
  | .iface _ d => uptoBulk d + 1
  | .map entries => uptoBulkEntries entries + 1
  | .held _ => 1
def uptoBulkAll {H : Type} : List (DataW H) → Nat
  | [] => 0
  | d :: r => uptoBulk d + uptoBulkAll r
def uptoBulkEntries {H : Type} : List (Lit × DataW H) → Nat
  | [] => 0
  | x :: r => uptoBulkEntry x + uptoBulkEntries r
def uptoBulkEntry {H : Type} : Lit × DataW H → Nat
  | (.string bytes, d) => bytes.length + uptoBulk d + 1
  | (_, d) => uptoBulk d + 1
 end
def uptoSmall : (H : Type) → List (DataW H) → Bool := fun _ ds => decide (uptoBulkAll ds ≤ 1048576)
def OpenSpec.upto (s : _root_.Go.ChangeSpec) : _root_.Go.OpenSpec := { _root_.Go.OpenSpec.ofChange s with cond := some uptoSmall }

/-- 'laws.FnExactSpreadCells', WHERE WHAT IT READS IS OF BULK AT MOST 1048576: true; the input reads as it did. -/
def fnExactSpreadCellsUptoRow : OpenClaim := { program := "ythienbbecbakjaadoor", sum := "c391656e0f6939569e3e9a213880c7fc32f7d9be9dd71943b5a62de7ffaba6bc", func := "loop.example/g01360/laws.FnExactSpreadCells", spec := "fnExactSpreadCells", inPlace := ["internal/reflectlite.TypeOf"], unfollowed := true, recurses := true, named := ["loop.example/g01360/impl.errRange", "loop.example/g01360/impl.errInvalid", "loop.example/g01360/impl.errLimit", "loop.example/g01360/impl.errState", "loop.example/g01360/impl.errSyntax", "loop.example/g01360/impl.errBudget"], ifaces := true, apart := false, laid := [("loop.example/g01360/impl.errInvalid", laid_loop_example_g01360_impl_errInvalid), ("loop.example/g01360/impl.errRange", laid_loop_example_g01360_impl_errRange), ("loop.example/g01360/impl.errLimit", laid_loop_example_g01360_impl_errLimit), ("loop.example/g01360/impl.errState", laid_loop_example_g01360_impl_errState), ("loop.example/g01360/impl.errSyntax", laid_loop_example_g01360_impl_errSyntax), ("loop.example/g01360/impl.errBudget", laid_loop_example_g01360_impl_errBudget)], narrowed := true }
def FnExactSpreadCellsUptoSaid : Prop := fnExactSpreadCellsUptoRow.holds Tryd.pinned (OpenSpec.upto fnExactSpreadCellsSpec)

/-- 'laws.FnExactSpreadSteps', WHERE WHAT IT READS IS OF BULK AT MOST 1048576: true; the input reads as it did. -/
def fnExactSpreadStepsUptoRow : OpenClaim := { program := "ythienbbecbakjaadoor", sum := "c391656e0f6939569e3e9a213880c7fc32f7d9be9dd71943b5a62de7ffaba6bc", func := "loop.example/g01360/laws.FnExactSpreadSteps", spec := "fnExactSpreadSteps", inPlace := ["internal/reflectlite.TypeOf"], unfollowed := true, recurses := true, named := ["loop.example/g01360/impl.errRange", "loop.example/g01360/impl.errInvalid", "loop.example/g01360/impl.errLimit", "loop.example/g01360/impl.errState", "loop.example/g01360/impl.errSyntax", "loop.example/g01360/impl.errBudget"], ifaces := true, apart := false, laid := [("loop.example/g01360/impl.errInvalid", laid_loop_example_g01360_impl_errInvalid), ("loop.example/g01360/impl.errRange", laid_loop_example_g01360_impl_errRange), ("loop.example/g01360/impl.errLimit", laid_loop_example_g01360_impl_errLimit), ("loop.example/g01360/impl.errState", laid_loop_example_g01360_impl_errState), ("loop.example/g01360/impl.errSyntax", laid_loop_example_g01360_impl_errSyntax), ("loop.example/g01360/impl.errBudget", laid_loop_example_g01360_impl_errBudget)], narrowed := true }
def FnExactSpreadStepsUptoSaid : Prop := fnExactSpreadStepsUptoRow.holds Tryd.pinned (OpenSpec.upto fnExactSpreadStepsSpec)

/-- 'laws.FnExactInnerCells', WHERE WHAT IT READS IS OF BULK AT MOST 1048576: true; the input reads as it did. -/
def fnExactInnerCellsUptoRow : OpenClaim := { program := "ythienbbecbakjaadoor", sum := "c391656e0f6939569e3e9a213880c7fc32f7d9be9dd71943b5a62de7ffaba6bc", func := "loop.example/g01360/laws.FnExactInnerCells", spec := "fnExactInnerCells", inPlace := ["internal/reflectlite.TypeOf"], unfollowed := true, recurses := true, named := ["loop.example/g01360/impl.errRange", "loop.example/g01360/impl.errInvalid", "loop.example/g01360/impl.errLimit", "loop.example/g01360/impl.errState", "loop.example/g01360/impl.errSyntax", "loop.example/g01360/impl.errBudget"], ifaces := true, apart := false, laid := [("loop.example/g01360/impl.errInvalid", laid_loop_example_g01360_impl_errInvalid), ("loop.example/g01360/impl.errRange", laid_loop_example_g01360_impl_errRange), ("loop.example/g01360/impl.errLimit", laid_loop_example_g01360_impl_errLimit), ("loop.example/g01360/impl.errState", laid_loop_example_g01360_impl_errState), ("loop.example/g01360/impl.errSyntax", laid_loop_example_g01360_impl_errSyntax), ("loop.example/g01360/impl.errBudget", laid_loop_example_g01360_impl_errBudget)], narrowed := true }
def FnExactInnerCellsUptoSaid : Prop := fnExactInnerCellsUptoRow.holds Tryd.pinned (OpenSpec.upto fnExactInnerCellsSpec)

/-- 'laws.FnExactHasForerunner', WHERE WHAT IT READS IS OF BULK AT MOST 1048576: true; the input reads as it did. -/
def fnExactHasForerunnerUptoRow : OpenClaim := { program := "ythienbbecbakjaadoor", sum := "c391656e0f6939569e3e9a213880c7fc32f7d9be9dd71943b5a62de7ffaba6bc", func := "loop.example/g01360/laws.FnExactHasForerunner", spec := "fnExactHasForerunner", inPlace := ["internal/reflectlite.TypeOf"], unfollowed := true, recurses := true, named := ["loop.example/g01360/impl.errState", "loop.example/g01360/impl.errRange", "loop.example/g01360/impl.errInvalid", "loop.example/g01360/impl.errLimit", "loop.example/g01360/impl.errSyntax", "loop.example/g01360/impl.errBudget"], ifaces := true, apart := false, laid := [("loop.example/g01360/impl.errInvalid", laid_loop_example_g01360_impl_errInvalid), ("loop.example/g01360/impl.errRange", laid_loop_example_g01360_impl_errRange), ("loop.example/g01360/impl.errLimit", laid_loop_example_g01360_impl_errLimit), ("loop.example/g01360/impl.errState", laid_loop_example_g01360_impl_errState), ("loop.example/g01360/impl.errSyntax", laid_loop_example_g01360_impl_errSyntax), ("loop.example/g01360/impl.errBudget", laid_loop_example_g01360_impl_errBudget)], narrowed := true }
def FnExactHasForerunnerUptoSaid : Prop := fnExactHasForerunnerUptoRow.holds Tryd.pinned (OpenSpec.upto fnExactHasForerunnerSpec)

/-- 'laws.FnExactLongestPast', WHERE WHAT IT READS IS OF BULK AT MOST 1048576: true; the input reads as it did. -/
def fnExactLongestPastUptoRow : OpenClaim := { program := "ythienbbecbakjaadoor", sum := "c391656e0f6939569e3e9a213880c7fc32f7d9be9dd71943b5a62de7ffaba6bc", func := "loop.example/g01360/laws.FnExactLongestPast", spec := "fnExactLongestPast", inPlace := ["internal/reflectlite.TypeOf"], unfollowed := true, recurses := true, named := ["loop.example/g01360/impl.errState", "loop.example/g01360/impl.errRange", "loop.example/g01360/impl.errInvalid", "loop.example/g01360/impl.errLimit", "loop.example/g01360/impl.errSyntax", "loop.example/g01360/impl.errBudget"], ifaces := true, apart := false, laid := [("loop.example/g01360/impl.errInvalid", laid_loop_example_g01360_impl_errInvalid), ("loop.example/g01360/impl.errRange", laid_loop_example_g01360_impl_errRange), ("loop.example/g01360/impl.errLimit", laid_loop_example_g01360_impl_errLimit), ("loop.example/g01360/impl.errState", laid_loop_example_g01360_impl_errState), ("loop.example/g01360/impl.errSyntax", laid_loop_example_g01360_impl_errSyntax), ("loop.example/g01360/impl.errBudget", laid_loop_example_g01360_impl_errBudget)], narrowed := true }
def FnExactLongestPastUptoSaid : Prop := fnExactLongestPastUptoRow.holds Tryd.pinned (OpenSpec.upto fnExactLongestPastSpec)

end Rows
end Go.Proofs.YthienbbecbakjaaDoor
