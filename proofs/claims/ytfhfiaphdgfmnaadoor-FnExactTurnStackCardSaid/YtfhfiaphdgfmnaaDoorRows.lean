/-
  NARROWER THAN 'FOR EVERY INPUT', by the rows' own cells (each row's printed sentence says how): FnExactPutSheet: ifaces, laid · FnExactTakeSheet: ifaces, laid · FnExactTurnStack: ifaces, laid · FnExactDyeOf: ifaces, laid · FnExactReachedBy: ifaces, laid · FnExactDryTimes: ifaces, laid · FnExactWettestSheet: ifaces, laid · FnExactDryStack: ifaces, laid.
  DERIVED. THE GIVEN ROWS OF THIS SEAT. 8 by the template 'for every input the law returns true; each argument reads behind the call as it read before'; 0 by the template 'total and deterministic' (their statements: YtfhfiaphdgfmnaaDoorTotals.lean).
  GIVEN WITH THE SEED: the statements are not yours to turn. If you find one false, say at which input.
  Laid BY PROGRAM, IN A SANDBOX (cutbox-rows.mjs): the forced cells as the released guide's own fill.sh prints them over the translation b022ca3741a56775… (all of the seat's roots in one cut). By AI agents, Wed Nov 11 2026. No macro, syntax, notation, axiom, sorry.
-/
import Derived.Test.YtfhfiaphdgfmnaaDoorChecked
import GoSem.Claim
import GoSem.ClaimJoined
import GoSem.ClaimMapViews
import Derived.JoinedTies
import Derived.KernelRfl
namespace Go.Proofs.YtfhfiaphdgfmnaaDoor
/- THE CELL 'sum', in the pinned program and in every row, IS THE sha256 OF THE DUMP (.gsa) THAT YtfhfiaphdgfmnaaDoorProg.lean LOADS. Nothing in Lean hashes anything: it is a label: what it is worth is what the hold of that sum in a sandbox is worth. -/
noncomputable def Tryd.pinned : Pinned := { name := "ytfhfiaphdgfmnaadoor", sum := "b022ca3741a56775e8388bb911918d717b91eff172e2956a5f67659332728642", checked := Tryd.checked }
namespace Rows
def none {H : Type} : Left H := { results := [], args := [] }

/- WHAT THE LISTED PACKAGE-LEVEL VARIABLES READ AS WHEN THE CALL BEGINS. Each datum BY PROGRAM (the guide's laid-datum.mjs) off the statement by which the dump's own 'gosem.cut.vars' lays the variable. In a bare row this is a premise. The card (YtfhfiaphdgfmnaaDoorCards.lean) ties it to the program's text. -/
def laid_loop_example_g01360_impl_errInvalid {H : Type} : DataW H := .iface "*errors.errorString" (.ptr (.agg [.lit (.string [105, 110, 118, 97, 108, 105, 100])]))
def laid_loop_example_g01360_impl_errRange {H : Type} : DataW H := .iface "*errors.errorString" (.ptr (.agg [.lit (.string [114, 97, 110, 103, 101])]))
def laid_loop_example_g01360_impl_errLimit {H : Type} : DataW H := .iface "*errors.errorString" (.ptr (.agg [.lit (.string [108, 105, 109, 105, 116])]))
def laid_loop_example_g01360_impl_errState {H : Type} : DataW H := .iface "*errors.errorString" (.ptr (.agg [.lit (.string [115, 116, 97, 116, 101])]))
def laid_loop_example_g01360_impl_errSyntax {H : Type} : DataW H := .iface "*errors.errorString" (.ptr (.agg [.lit (.string [115, 121, 110, 116, 97, 120])]))
def laid_loop_example_g01360_impl_errBudget {H : Type} : DataW H := .iface "*errors.errorString" (.ptr (.agg [.lit (.string [98, 117, 100, 103, 101, 116])]))
def laid_loop_example_g01360_impl_errNotFound {H : Type} : DataW H := .iface "*errors.errorString" (.ptr (.agg [.lit (.string [110, 111, 116, 102, 111, 117, 110, 100])]))

/-- 'laws.FnExactPutSheet': WHATEVER THE INPUT: true; the input reads as it did. -/
def fnExactPutSheetSpec : ChangeSpec := { name := "fnExactPutSheet", vars := ["loop.example/g01360/impl.errInvalid", "loop.example/g01360/impl.errRange", "loop.example/g01360/impl.errState", "loop.example/g01360/impl.errLimit", "loop.example/g01360/impl.errSyntax", "loop.example/g01360/impl.errBudget"], fn := fun _ => fun
  | [d1, d2, d3, g1, g2, g3, g4, g5, g6] => { results := [.lit (.bool true)], args := [d1, d2, d3], vars := [g1, g2, g3, g4, g5, g6] }
  | _ => none }
def fnExactPutSheetRow : OpenClaim := { program := "ytfhfiaphdgfmnaadoor", sum := "b022ca3741a56775e8388bb911918d717b91eff172e2956a5f67659332728642", func := "loop.example/g01360/laws.FnExactPutSheet", spec := "fnExactPutSheet", inPlace := ["internal/reflectlite.TypeOf"], unfollowed := true, recurses := true, named := ["loop.example/g01360/impl.errInvalid", "loop.example/g01360/impl.errRange", "loop.example/g01360/impl.errState", "loop.example/g01360/impl.errLimit", "loop.example/g01360/impl.errSyntax", "loop.example/g01360/impl.errBudget"], ifaces := true, apart := false, laid := [("loop.example/g01360/impl.errInvalid", laid_loop_example_g01360_impl_errInvalid), ("loop.example/g01360/impl.errRange", laid_loop_example_g01360_impl_errRange), ("loop.example/g01360/impl.errLimit", laid_loop_example_g01360_impl_errLimit), ("loop.example/g01360/impl.errState", laid_loop_example_g01360_impl_errState), ("loop.example/g01360/impl.errSyntax", laid_loop_example_g01360_impl_errSyntax), ("loop.example/g01360/impl.errBudget", laid_loop_example_g01360_impl_errBudget)] }
def FnExactPutSheetSaid : Prop := fnExactPutSheetRow.holds Tryd.pinned (OpenSpec.ofChange fnExactPutSheetSpec)

/-- ITS FALSE NEIGHBOUR: 'it returns false'. Refute it at one input. -/
def fnExactPutSheetWrong : ChangeSpec := { name := "fnExactPutSheet", vars := ["loop.example/g01360/impl.errInvalid", "loop.example/g01360/impl.errRange", "loop.example/g01360/impl.errState", "loop.example/g01360/impl.errLimit", "loop.example/g01360/impl.errSyntax", "loop.example/g01360/impl.errBudget"], fn := fun _ => fun
  | [d1, d2, d3, g1, g2, g3, g4, g5, g6] => { results := [.lit (.bool false)], args := [d1, d2, d3], vars := [g1, g2, g3, g4, g5, g6] }
  | _ => none }
def FnExactPutSheetWrongFalsely : Prop := fnExactPutSheetRow.holds Tryd.pinned (OpenSpec.ofChange fnExactPutSheetWrong)

/-- 'laws.FnExactTakeSheet': WHATEVER THE INPUT: true; the input reads as it did. -/
def fnExactTakeSheetSpec : ChangeSpec := { name := "fnExactTakeSheet", vars := ["loop.example/g01360/impl.errRange", "loop.example/g01360/impl.errInvalid", "loop.example/g01360/impl.errLimit", "loop.example/g01360/impl.errState", "loop.example/g01360/impl.errSyntax", "loop.example/g01360/impl.errBudget"], fn := fun _ => fun
  | [d1, d2, g1, g2, g3, g4, g5, g6] => { results := [.lit (.bool true)], args := [d1, d2], vars := [g1, g2, g3, g4, g5, g6] }
  | _ => none }
def fnExactTakeSheetRow : OpenClaim := { program := "ytfhfiaphdgfmnaadoor", sum := "b022ca3741a56775e8388bb911918d717b91eff172e2956a5f67659332728642", func := "loop.example/g01360/laws.FnExactTakeSheet", spec := "fnExactTakeSheet", inPlace := ["internal/reflectlite.TypeOf"], unfollowed := true, recurses := true, named := ["loop.example/g01360/impl.errRange", "loop.example/g01360/impl.errInvalid", "loop.example/g01360/impl.errLimit", "loop.example/g01360/impl.errState", "loop.example/g01360/impl.errSyntax", "loop.example/g01360/impl.errBudget"], ifaces := true, apart := false, laid := [("loop.example/g01360/impl.errInvalid", laid_loop_example_g01360_impl_errInvalid), ("loop.example/g01360/impl.errRange", laid_loop_example_g01360_impl_errRange), ("loop.example/g01360/impl.errLimit", laid_loop_example_g01360_impl_errLimit), ("loop.example/g01360/impl.errState", laid_loop_example_g01360_impl_errState), ("loop.example/g01360/impl.errSyntax", laid_loop_example_g01360_impl_errSyntax), ("loop.example/g01360/impl.errBudget", laid_loop_example_g01360_impl_errBudget)] }
def FnExactTakeSheetSaid : Prop := fnExactTakeSheetRow.holds Tryd.pinned (OpenSpec.ofChange fnExactTakeSheetSpec)

/-- ITS FALSE NEIGHBOUR: 'it returns false'. Refute it at one input. -/
def fnExactTakeSheetWrong : ChangeSpec := { name := "fnExactTakeSheet", vars := ["loop.example/g01360/impl.errRange", "loop.example/g01360/impl.errInvalid", "loop.example/g01360/impl.errLimit", "loop.example/g01360/impl.errState", "loop.example/g01360/impl.errSyntax", "loop.example/g01360/impl.errBudget"], fn := fun _ => fun
  | [d1, d2, g1, g2, g3, g4, g5, g6] => { results := [.lit (.bool false)], args := [d1, d2], vars := [g1, g2, g3, g4, g5, g6] }
  | _ => none }
def FnExactTakeSheetWrongFalsely : Prop := fnExactTakeSheetRow.holds Tryd.pinned (OpenSpec.ofChange fnExactTakeSheetWrong)

/-- 'laws.FnExactTurnStack': WHATEVER THE INPUT: true; the input reads as it did. -/
def fnExactTurnStackSpec : ChangeSpec := { name := "fnExactTurnStack", vars := ["loop.example/g01360/impl.errInvalid", "loop.example/g01360/impl.errRange", "loop.example/g01360/impl.errLimit", "loop.example/g01360/impl.errState", "loop.example/g01360/impl.errSyntax", "loop.example/g01360/impl.errBudget"], fn := fun _ => fun
  | [d, g1, g2, g3, g4, g5, g6] => { results := [.lit (.bool true)], args := [d], vars := [g1, g2, g3, g4, g5, g6] }
  | _ => none }
def fnExactTurnStackRow : OpenClaim := { program := "ytfhfiaphdgfmnaadoor", sum := "b022ca3741a56775e8388bb911918d717b91eff172e2956a5f67659332728642", func := "loop.example/g01360/laws.FnExactTurnStack", spec := "fnExactTurnStack", inPlace := ["internal/reflectlite.TypeOf"], unfollowed := true, recurses := true, named := ["loop.example/g01360/impl.errInvalid", "loop.example/g01360/impl.errRange", "loop.example/g01360/impl.errLimit", "loop.example/g01360/impl.errState", "loop.example/g01360/impl.errSyntax", "loop.example/g01360/impl.errBudget"], ifaces := true, apart := false, laid := [("loop.example/g01360/impl.errInvalid", laid_loop_example_g01360_impl_errInvalid), ("loop.example/g01360/impl.errRange", laid_loop_example_g01360_impl_errRange), ("loop.example/g01360/impl.errLimit", laid_loop_example_g01360_impl_errLimit), ("loop.example/g01360/impl.errState", laid_loop_example_g01360_impl_errState), ("loop.example/g01360/impl.errSyntax", laid_loop_example_g01360_impl_errSyntax), ("loop.example/g01360/impl.errBudget", laid_loop_example_g01360_impl_errBudget)] }
def FnExactTurnStackSaid : Prop := fnExactTurnStackRow.holds Tryd.pinned (OpenSpec.ofChange fnExactTurnStackSpec)

/-- ITS FALSE NEIGHBOUR: 'it returns false'. Refute it at one input. -/
def fnExactTurnStackWrong : ChangeSpec := { name := "fnExactTurnStack", vars := ["loop.example/g01360/impl.errInvalid", "loop.example/g01360/impl.errRange", "loop.example/g01360/impl.errLimit", "loop.example/g01360/impl.errState", "loop.example/g01360/impl.errSyntax", "loop.example/g01360/impl.errBudget"], fn := fun _ => fun
  | [d, g1, g2, g3, g4, g5, g6] => { results := [.lit (.bool false)], args := [d], vars := [g1, g2, g3, g4, g5, g6] }
  | _ => none }
def FnExactTurnStackWrongFalsely : Prop := fnExactTurnStackRow.holds Tryd.pinned (OpenSpec.ofChange fnExactTurnStackWrong)

/-- 'laws.FnExactDyeOf': WHATEVER THE INPUT: true; the input reads as it did. -/
def fnExactDyeOfSpec : ChangeSpec := { name := "fnExactDyeOf", vars := ["loop.example/g01360/impl.errInvalid", "loop.example/g01360/impl.errRange", "loop.example/g01360/impl.errLimit", "loop.example/g01360/impl.errState", "loop.example/g01360/impl.errSyntax", "loop.example/g01360/impl.errBudget"], fn := fun _ => fun
  | [d, g1, g2, g3, g4, g5, g6] => { results := [.lit (.bool true)], args := [d], vars := [g1, g2, g3, g4, g5, g6] }
  | _ => none }
def fnExactDyeOfRow : OpenClaim := { program := "ytfhfiaphdgfmnaadoor", sum := "b022ca3741a56775e8388bb911918d717b91eff172e2956a5f67659332728642", func := "loop.example/g01360/laws.FnExactDyeOf", spec := "fnExactDyeOf", inPlace := ["internal/reflectlite.TypeOf"], unfollowed := true, recurses := true, named := ["loop.example/g01360/impl.errInvalid", "loop.example/g01360/impl.errRange", "loop.example/g01360/impl.errLimit", "loop.example/g01360/impl.errState", "loop.example/g01360/impl.errSyntax", "loop.example/g01360/impl.errBudget"], ifaces := true, apart := false, laid := [("loop.example/g01360/impl.errInvalid", laid_loop_example_g01360_impl_errInvalid), ("loop.example/g01360/impl.errRange", laid_loop_example_g01360_impl_errRange), ("loop.example/g01360/impl.errLimit", laid_loop_example_g01360_impl_errLimit), ("loop.example/g01360/impl.errState", laid_loop_example_g01360_impl_errState), ("loop.example/g01360/impl.errSyntax", laid_loop_example_g01360_impl_errSyntax), ("loop.example/g01360/impl.errBudget", laid_loop_example_g01360_impl_errBudget)] }
def FnExactDyeOfSaid : Prop := fnExactDyeOfRow.holds Tryd.pinned (OpenSpec.ofChange fnExactDyeOfSpec)

/-- ITS FALSE NEIGHBOUR: 'it returns false'. Refute it at one input. -/
def fnExactDyeOfWrong : ChangeSpec := { name := "fnExactDyeOf", vars := ["loop.example/g01360/impl.errInvalid", "loop.example/g01360/impl.errRange", "loop.example/g01360/impl.errLimit", "loop.example/g01360/impl.errState", "loop.example/g01360/impl.errSyntax", "loop.example/g01360/impl.errBudget"], fn := fun _ => fun
  | [d, g1, g2, g3, g4, g5, g6] => { results := [.lit (.bool false)], args := [d], vars := [g1, g2, g3, g4, g5, g6] }
  | _ => none }
def FnExactDyeOfWrongFalsely : Prop := fnExactDyeOfRow.holds Tryd.pinned (OpenSpec.ofChange fnExactDyeOfWrong)

/-- 'laws.FnExactReachedBy': WHATEVER THE INPUT: true; the input reads as it did. -/
def fnExactReachedBySpec : ChangeSpec := { name := "fnExactReachedBy", vars := ["loop.example/g01360/impl.errRange", "loop.example/g01360/impl.errInvalid", "loop.example/g01360/impl.errLimit", "loop.example/g01360/impl.errState", "loop.example/g01360/impl.errSyntax", "loop.example/g01360/impl.errBudget"], fn := fun _ => fun
  | [d1, d2, g1, g2, g3, g4, g5, g6] => { results := [.lit (.bool true)], args := [d1, d2], vars := [g1, g2, g3, g4, g5, g6] }
  | _ => none }
def fnExactReachedByRow : OpenClaim := { program := "ytfhfiaphdgfmnaadoor", sum := "b022ca3741a56775e8388bb911918d717b91eff172e2956a5f67659332728642", func := "loop.example/g01360/laws.FnExactReachedBy", spec := "fnExactReachedBy", inPlace := ["internal/reflectlite.TypeOf"], unfollowed := true, recurses := true, named := ["loop.example/g01360/impl.errRange", "loop.example/g01360/impl.errInvalid", "loop.example/g01360/impl.errLimit", "loop.example/g01360/impl.errState", "loop.example/g01360/impl.errSyntax", "loop.example/g01360/impl.errBudget"], ifaces := true, apart := false, laid := [("loop.example/g01360/impl.errInvalid", laid_loop_example_g01360_impl_errInvalid), ("loop.example/g01360/impl.errRange", laid_loop_example_g01360_impl_errRange), ("loop.example/g01360/impl.errLimit", laid_loop_example_g01360_impl_errLimit), ("loop.example/g01360/impl.errState", laid_loop_example_g01360_impl_errState), ("loop.example/g01360/impl.errSyntax", laid_loop_example_g01360_impl_errSyntax), ("loop.example/g01360/impl.errBudget", laid_loop_example_g01360_impl_errBudget)] }
def FnExactReachedBySaid : Prop := fnExactReachedByRow.holds Tryd.pinned (OpenSpec.ofChange fnExactReachedBySpec)

/-- ITS FALSE NEIGHBOUR: 'it returns false'. Refute it at one input. -/
def fnExactReachedByWrong : ChangeSpec := { name := "fnExactReachedBy", vars := ["loop.example/g01360/impl.errRange", "loop.example/g01360/impl.errInvalid", "loop.example/g01360/impl.errLimit", "loop.example/g01360/impl.errState", "loop.example/g01360/impl.errSyntax", "loop.example/g01360/impl.errBudget"], fn := fun _ => fun
  | [d1, d2, g1, g2, g3, g4, g5, g6] => { results := [.lit (.bool false)], args := [d1, d2], vars := [g1, g2, g3, g4, g5, g6] }
  | _ => none }
def FnExactReachedByWrongFalsely : Prop := fnExactReachedByRow.holds Tryd.pinned (OpenSpec.ofChange fnExactReachedByWrong)

/-- 'laws.FnExactDryTimes': WHATEVER THE INPUT: true; the input reads as it did. -/
def fnExactDryTimesSpec : ChangeSpec := { name := "fnExactDryTimes", vars := ["loop.example/g01360/impl.errRange", "loop.example/g01360/impl.errInvalid", "loop.example/g01360/impl.errLimit", "loop.example/g01360/impl.errState", "loop.example/g01360/impl.errSyntax", "loop.example/g01360/impl.errBudget", "loop.example/g01360/impl.errNotFound"], fn := fun _ => fun
  | [d1, d2, g1, g2, g3, g4, g5, g6, g7] => { results := [.lit (.bool true)], args := [d1, d2], vars := [g1, g2, g3, g4, g5, g6, g7] }
  | _ => none }
def fnExactDryTimesRow : OpenClaim := { program := "ytfhfiaphdgfmnaadoor", sum := "b022ca3741a56775e8388bb911918d717b91eff172e2956a5f67659332728642", func := "loop.example/g01360/laws.FnExactDryTimes", spec := "fnExactDryTimes", inPlace := ["internal/reflectlite.TypeOf"], unfollowed := true, recurses := true, named := ["loop.example/g01360/impl.errRange", "loop.example/g01360/impl.errInvalid", "loop.example/g01360/impl.errLimit", "loop.example/g01360/impl.errState", "loop.example/g01360/impl.errSyntax", "loop.example/g01360/impl.errBudget", "loop.example/g01360/impl.errNotFound"], ifaces := true, apart := false, laid := [("loop.example/g01360/impl.errInvalid", laid_loop_example_g01360_impl_errInvalid), ("loop.example/g01360/impl.errRange", laid_loop_example_g01360_impl_errRange), ("loop.example/g01360/impl.errLimit", laid_loop_example_g01360_impl_errLimit), ("loop.example/g01360/impl.errState", laid_loop_example_g01360_impl_errState), ("loop.example/g01360/impl.errSyntax", laid_loop_example_g01360_impl_errSyntax), ("loop.example/g01360/impl.errNotFound", laid_loop_example_g01360_impl_errNotFound), ("loop.example/g01360/impl.errBudget", laid_loop_example_g01360_impl_errBudget)] }
def FnExactDryTimesSaid : Prop := fnExactDryTimesRow.holds Tryd.pinned (OpenSpec.ofChange fnExactDryTimesSpec)

/-- ITS FALSE NEIGHBOUR: 'it returns false'. Refute it at one input. -/
def fnExactDryTimesWrong : ChangeSpec := { name := "fnExactDryTimes", vars := ["loop.example/g01360/impl.errRange", "loop.example/g01360/impl.errInvalid", "loop.example/g01360/impl.errLimit", "loop.example/g01360/impl.errState", "loop.example/g01360/impl.errSyntax", "loop.example/g01360/impl.errBudget", "loop.example/g01360/impl.errNotFound"], fn := fun _ => fun
  | [d1, d2, g1, g2, g3, g4, g5, g6, g7] => { results := [.lit (.bool false)], args := [d1, d2], vars := [g1, g2, g3, g4, g5, g6, g7] }
  | _ => none }
def FnExactDryTimesWrongFalsely : Prop := fnExactDryTimesRow.holds Tryd.pinned (OpenSpec.ofChange fnExactDryTimesWrong)

/-- 'laws.FnExactWettestSheet': WHATEVER THE INPUT: true; the input reads as it did. -/
def fnExactWettestSheetSpec : ChangeSpec := { name := "fnExactWettestSheet", vars := ["loop.example/g01360/impl.errInvalid", "loop.example/g01360/impl.errRange", "loop.example/g01360/impl.errLimit", "loop.example/g01360/impl.errState", "loop.example/g01360/impl.errSyntax", "loop.example/g01360/impl.errBudget"], fn := fun _ => fun
  | [d, g1, g2, g3, g4, g5, g6] => { results := [.lit (.bool true)], args := [d], vars := [g1, g2, g3, g4, g5, g6] }
  | _ => none }
def fnExactWettestSheetRow : OpenClaim := { program := "ytfhfiaphdgfmnaadoor", sum := "b022ca3741a56775e8388bb911918d717b91eff172e2956a5f67659332728642", func := "loop.example/g01360/laws.FnExactWettestSheet", spec := "fnExactWettestSheet", inPlace := ["internal/reflectlite.TypeOf"], unfollowed := true, recurses := true, named := ["loop.example/g01360/impl.errInvalid", "loop.example/g01360/impl.errRange", "loop.example/g01360/impl.errLimit", "loop.example/g01360/impl.errState", "loop.example/g01360/impl.errSyntax", "loop.example/g01360/impl.errBudget"], ifaces := true, apart := false, laid := [("loop.example/g01360/impl.errInvalid", laid_loop_example_g01360_impl_errInvalid), ("loop.example/g01360/impl.errRange", laid_loop_example_g01360_impl_errRange), ("loop.example/g01360/impl.errLimit", laid_loop_example_g01360_impl_errLimit), ("loop.example/g01360/impl.errState", laid_loop_example_g01360_impl_errState), ("loop.example/g01360/impl.errSyntax", laid_loop_example_g01360_impl_errSyntax), ("loop.example/g01360/impl.errBudget", laid_loop_example_g01360_impl_errBudget)] }
def FnExactWettestSheetSaid : Prop := fnExactWettestSheetRow.holds Tryd.pinned (OpenSpec.ofChange fnExactWettestSheetSpec)

/-- ITS FALSE NEIGHBOUR: 'it returns false'. Refute it at one input. -/
def fnExactWettestSheetWrong : ChangeSpec := { name := "fnExactWettestSheet", vars := ["loop.example/g01360/impl.errInvalid", "loop.example/g01360/impl.errRange", "loop.example/g01360/impl.errLimit", "loop.example/g01360/impl.errState", "loop.example/g01360/impl.errSyntax", "loop.example/g01360/impl.errBudget"], fn := fun _ => fun
  | [d, g1, g2, g3, g4, g5, g6] => { results := [.lit (.bool false)], args := [d], vars := [g1, g2, g3, g4, g5, g6] }
  | _ => none }
def FnExactWettestSheetWrongFalsely : Prop := fnExactWettestSheetRow.holds Tryd.pinned (OpenSpec.ofChange fnExactWettestSheetWrong)

/-- 'laws.FnExactDryStack': WHATEVER THE INPUT: true; the input reads as it did. -/
def fnExactDryStackSpec : ChangeSpec := { name := "fnExactDryStack", vars := ["loop.example/g01360/impl.errRange", "loop.example/g01360/impl.errInvalid", "loop.example/g01360/impl.errLimit", "loop.example/g01360/impl.errState", "loop.example/g01360/impl.errSyntax", "loop.example/g01360/impl.errBudget"], fn := fun _ => fun
  | [d1, d2, g1, g2, g3, g4, g5, g6] => { results := [.lit (.bool true)], args := [d1, d2], vars := [g1, g2, g3, g4, g5, g6] }
  | _ => none }
def fnExactDryStackRow : OpenClaim := { program := "ytfhfiaphdgfmnaadoor", sum := "b022ca3741a56775e8388bb911918d717b91eff172e2956a5f67659332728642", func := "loop.example/g01360/laws.FnExactDryStack", spec := "fnExactDryStack", inPlace := ["internal/reflectlite.TypeOf"], unfollowed := true, recurses := true, named := ["loop.example/g01360/impl.errRange", "loop.example/g01360/impl.errInvalid", "loop.example/g01360/impl.errLimit", "loop.example/g01360/impl.errState", "loop.example/g01360/impl.errSyntax", "loop.example/g01360/impl.errBudget"], ifaces := true, apart := false, laid := [("loop.example/g01360/impl.errInvalid", laid_loop_example_g01360_impl_errInvalid), ("loop.example/g01360/impl.errRange", laid_loop_example_g01360_impl_errRange), ("loop.example/g01360/impl.errLimit", laid_loop_example_g01360_impl_errLimit), ("loop.example/g01360/impl.errState", laid_loop_example_g01360_impl_errState), ("loop.example/g01360/impl.errSyntax", laid_loop_example_g01360_impl_errSyntax), ("loop.example/g01360/impl.errBudget", laid_loop_example_g01360_impl_errBudget)] }
def FnExactDryStackSaid : Prop := fnExactDryStackRow.holds Tryd.pinned (OpenSpec.ofChange fnExactDryStackSpec)

/-- ITS FALSE NEIGHBOUR: 'it returns false'. Refute it at one input. -/
def fnExactDryStackWrong : ChangeSpec := { name := "fnExactDryStack", vars := ["loop.example/g01360/impl.errRange", "loop.example/g01360/impl.errInvalid", "loop.example/g01360/impl.errLimit", "loop.example/g01360/impl.errState", "loop.example/g01360/impl.errSyntax", "loop.example/g01360/impl.errBudget"], fn := fun _ => fun
  | [d1, d2, g1, g2, g3, g4, g5, g6] => { results := [.lit (.bool false)], args := [d1, d2], vars := [g1, g2, g3, g4, g5, g6] }
  | _ => none }
def FnExactDryStackWrongFalsely : Prop := fnExactDryStackRow.holds Tryd.pinned (OpenSpec.ofChange fnExactDryStackWrong)

/- THE SECOND FORM. 'bulk': how many values and letters a reading holds, each counted each time it is reached (what is shared counts as often as it is met; a slice's spare places count too). A statement '..UptoSaid' is the law's where the arguments, and the package variables that the reading takes, are together of bulk at most 1048576: NARROWER than '..Said'. Prove '..Said' where nothing that the law and all that it calls make is longer than what came in: it says more and counts as full. Else prove '..UptoSaid'. A law counts once. -/
mutual
def uptoBulk {H : Type} : DataW H → Nat
  | .lit (.string bytes) => bytes.length + 1
  | .lit _ => 1
  | .nil => 1
  | .ptr d => uptoBulk d + 1
  | .slice elems spare => uptoBulkAll elems + uptoBulkAll spare + 1
  | .agg parts => uptoBulkAll parts + 1
  | .iface _ d => uptoBulk d + 1
  | .map entries => uptoBulkEntries entries + 1
  | .held _ => 1
def uptoBulkAll {H : Type} : List (DataW H) → Nat
  | [] => 0
  | d :: r => uptoBulk d + uptoBulkAll r
def uptoBulkEntries {H : Type} : List (Lit × DataW H) → Nat
  | [] => 0
  | x :: r => uptoBulkEntry x + uptoBulkEntries r
def uptoBulkEntry {H : Type} : Lit × DataW H → Nat
  | (.string bytes, d) => bytes.length + uptoBulk d + 1
  | (_, d) => uptoBulk d + 1
 end
def uptoSmall : (H : Type) → List (DataW H) → Bool := fun _ ds => decide (uptoBulkAll ds ≤ 1048576)
def OpenSpec.upto (s : _root_.Go.ChangeSpec) : _root_.Go.OpenSpec := { _root_.Go.OpenSpec.ofChange s with cond := some uptoSmall }

/-- 'laws.FnExactPutSheet', WHERE WHAT IT READS IS OF BULK AT MOST 1048576: true; the input reads as it did. -/
def fnExactPutSheetUptoRow : OpenClaim := { program := "ytfhfiaphdgfmnaadoor", sum := "b022ca3741a56775e8388bb911918d717b91eff172e2956a5f67659332728642", func := "loop.example/g01360/laws.FnExactPutSheet", spec := "fnExactPutSheet", inPlace := ["internal/reflectlite.TypeOf"], unfollowed := true, recurses := true, named := ["loop.example/g01360/impl.errInvalid", "loop.example/g01360/impl.errRange", "loop.example/g01360/impl.errState", "loop.example/g01360/impl.errLimit", "loop.example/g01360/impl.errSyntax", "loop.example/g01360/impl.errBudget"], ifaces := true, apart := false, laid := [("loop.example/g01360/impl.errInvalid", laid_loop_example_g01360_impl_errInvalid), ("loop.example/g01360/impl.errRange", laid_loop_example_g01360_impl_errRange), ("loop.example/g01360/impl.errLimit", laid_loop_example_g01360_impl_errLimit), ("loop.example/g01360/impl.errState", laid_loop_example_g01360_impl_errState), ("loop.example/g01360/impl.errSyntax", laid_loop_example_g01360_impl_errSyntax), ("loop.example/g01360/impl.errBudget", laid_loop_example_g01360_impl_errBudget)], narrowed := true }
def FnExactPutSheetUptoSaid : Prop := fnExactPutSheetUptoRow.holds Tryd.pinned (OpenSpec.upto fnExactPutSheetSpec)

/-- 'laws.FnExactTakeSheet', WHERE WHAT IT READS IS OF BULK AT MOST 1048576: true; the input reads as it did. -/
def fnExactTakeSheetUptoRow : OpenClaim := { program := "ytfhfiaphdgfmnaadoor", sum := "b022ca3741a56775e8388bb911918d717b91eff172e2956a5f67659332728642", func := "loop.example/g01360/laws.FnExactTakeSheet", spec := "fnExactTakeSheet", inPlace := ["internal/reflectlite.TypeOf"], unfollowed := true, recurses := true, named := ["loop.example/g01360/impl.errRange", "loop.example/g01360/impl.errInvalid", "loop.example/g01360/impl.errLimit", "loop.example/g01360/impl.errState", "loop.example/g01360/impl.errSyntax", "loop.example/g01360/impl.errBudget"], ifaces := true, apart := false, laid := [("loop.example/g01360/impl.errInvalid", laid_loop_example_g01360_impl_errInvalid), ("loop.example/g01360/impl.errRange", laid_loop_example_g01360_impl_errRange), ("loop.example/g01360/impl.errLimit", laid_loop_example_g01360_impl_errLimit), ("loop.example/g01360/impl.errState", laid_loop_example_g01360_impl_errState), ("loop.example/g01360/impl.errSyntax", laid_loop_example_g01360_impl_errSyntax), ("loop.example/g01360/impl.errBudget", laid_loop_example_g01360_impl_errBudget)], narrowed := true }
def FnExactTakeSheetUptoSaid : Prop := fnExactTakeSheetUptoRow.holds Tryd.pinned (OpenSpec.upto fnExactTakeSheetSpec)

/-- 'laws.FnExactTurnStack', WHERE WHAT IT READS IS OF BULK AT MOST 1048576: true; the input reads as it did. -/
def fnExactTurnStackUptoRow : OpenClaim := { program := "ytfhfiaphdgfmnaadoor", sum := "b022ca3741a56775e8388bb911918d717b91eff172e2956a5f67659332728642", func := "loop.example/g01360/laws.FnExactTurnStack", spec := "fnExactTurnStack", inPlace := ["internal/reflectlite.TypeOf"], unfollowed := true, recurses := true, named := ["loop.example/g01360/impl.errInvalid", "loop.example/g01360/impl.errRange", "loop.example/g01360/impl.errLimit", "loop.example/g01360/impl.errState", "loop.example/g01360/impl.errSyntax", "loop.example/g01360/impl.errBudget"], ifaces := true, apart := false, laid := [("loop.example/g01360/impl.errInvalid", laid_loop_example_g01360_impl_errInvalid), ("loop.example/g01360/impl.errRange", laid_loop_example_g01360_impl_errRange), ("loop.example/g01360/impl.errLimit", laid_loop_example_g01360_impl_errLimit), ("loop.example/g01360/impl.errState", laid_loop_example_g01360_impl_errState), ("loop.example/g01360/impl.errSyntax", laid_loop_example_g01360_impl_errSyntax), ("loop.example/g01360/impl.errBudget", laid_loop_example_g01360_impl_errBudget)], narrowed := true }
def FnExactTurnStackUptoSaid : Prop := fnExactTurnStackUptoRow.holds Tryd.pinned (OpenSpec.upto fnExactTurnStackSpec)

/-- 'laws.FnExactDyeOf', WHERE WHAT IT READS IS OF BULK AT MOST 1048576: true; the input reads as it did. -/
def fnExactDyeOfUptoRow : OpenClaim := { program := "ytfhfiaphdgfmnaadoor", sum := "b022ca3741a56775e8388bb911918d717b91eff172e2956a5f67659332728642", func := "loop.example/g01360/laws.FnExactDyeOf", spec := "fnExactDyeOf", inPlace := ["internal/reflectlite.TypeOf"], unfollowed := true, recurses := true, named := ["loop.example/g01360/impl.errInvalid", "loop.example/g01360/impl.errRange", "loop.example/g01360/impl.errLimit", "loop.example/g01360/impl.errState", "loop.example/g01360/impl.errSyntax", "loop.example/g01360/impl.errBudget"], ifaces := true, apart := false, laid := [("loop.example/g01360/impl.errInvalid", laid_loop_example_g01360_impl_errInvalid), ("loop.example/g01360/impl.errRange", laid_loop_example_g01360_impl_errRange), ("loop.example/g01360/impl.errLimit", laid_loop_example_g01360_impl_errLimit), ("loop.example/g01360/impl.errState", laid_loop_example_g01360_impl_errState), ("loop.example/g01360/impl.errSyntax", laid_loop_example_g01360_impl_errSyntax), ("loop.example/g01360/impl.errBudget", laid_loop_example_g01360_impl_errBudget)], narrowed := true }
def FnExactDyeOfUptoSaid : Prop := fnExactDyeOfUptoRow.holds Tryd.pinned (OpenSpec.upto fnExactDyeOfSpec)

/-- 'laws.FnExactReachedBy', WHERE WHAT IT READS IS OF BULK AT MOST 1048576: true; the input reads as it did. -/
def fnExactReachedByUptoRow : OpenClaim := { program := "ytfhfiaphdgfmnaadoor", sum := "b022ca3741a56775e8388bb911918d717b91eff172e2956a5f67659332728642", func := "loop.example/g01360/laws.FnExactReachedBy", spec := "fnExactReachedBy", inPlace := ["internal/reflectlite.TypeOf"], unfollowed := true, recurses := true, named := ["loop.example/g01360/impl.errRange", "loop.example/g01360/impl.errInvalid", "loop.example/g01360/impl.errLimit", "loop.example/g01360/impl.errState", "loop.example/g01360/impl.errSyntax", "loop.example/g01360/impl.errBudget"], ifaces := true, apart := false, laid := [("loop.example/g01360/impl.errInvalid", laid_loop_example_g01360_impl_errInvalid), ("loop.example/g01360/impl.errRange", laid_loop_example_g01360_impl_errRange), ("loop.example/g01360/impl.errLimit", laid_loop_example_g01360_impl_errLimit), ("loop.example/g01360/impl.errState", laid_loop_example_g01360_impl_errState), ("loop.example/g01360/impl.errSyntax", laid_loop_example_g01360_impl_errSyntax), ("loop.example/g01360/impl.errBudget", laid_loop_example_g01360_impl_errBudget)], narrowed := true }
def FnExactReachedByUptoSaid : Prop := fnExactReachedByUptoRow.holds Tryd.pinned (OpenSpec.upto fnExactReachedBySpec)

/-- 'laws.FnExactDryTimes', WHERE WHAT IT READS IS OF BULK AT MOST 1048576: true; the input reads as it did. -/
def fnExactDryTimesUptoRow : OpenClaim := { program := "ytfhfiaphdgfmnaadoor", sum := "b022ca3741a56775e8388bb911918d717b91eff172e2956a5f67659332728642", func := "loop.example/g01360/laws.FnExactDryTimes", spec := "fnExactDryTimes", inPlace := ["internal/reflectlite.TypeOf"], unfollowed := true, recurses := true, named := ["loop.example/g01360/impl.errRange", "loop.example/g01360/impl.errInvalid", "loop.example/g01360/impl.errLimit", "loop.example/g01360/impl.errState", "loop.example/g01360/impl.errSyntax", "loop.example/g01360/impl.errBudget", "loop.example/g01360/impl.errNotFound"], ifaces := true, apart := false, laid := [("loop.example/g01360/impl.errInvalid", laid_loop_example_g01360_impl_errInvalid), ("loop.example/g01360/impl.errRange", laid_loop_example_g01360_impl_errRange), ("loop.example/g01360/impl.errLimit", laid_loop_example_g01360_impl_errLimit), ("loop.example/g01360/impl.errState", laid_loop_example_g01360_impl_errState), ("loop.example/g01360/impl.errSyntax", laid_loop_example_g01360_impl_errSyntax), ("loop.example/g01360/impl.errNotFound", laid_loop_example_g01360_impl_errNotFound), ("loop.example/g01360/impl.errBudget", laid_loop_example_g01360_impl_errBudget)], narrowed := true }
def FnExactDryTimesUptoSaid : Prop := fnExactDryTimesUptoRow.holds Tryd.pinned (OpenSpec.upto fnExactDryTimesSpec)

/-- 'laws.FnExactWettestSheet', WHERE WHAT IT READS IS OF BULK AT MOST 1048576: true; the input reads as it did. -/
def fnExactWettestSheetUptoRow : OpenClaim := { program := "ytfhfiaphdgfmnaadoor", sum := "b022ca3741a56775e8388bb911918d717b91eff172e2956a5f67659332728642", func := "loop.example/g01360/laws.FnExactWettestSheet", spec := "fnExactWettestSheet", inPlace := ["internal/reflectlite.TypeOf"], unfollowed := true, recurses := true, named := ["loop.example/g01360/impl.errInvalid", "loop.example/g01360/impl.errRange", "loop.example/g01360/impl.errLimit", "loop.example/g01360/impl.errState", "loop.example/g01360/impl.errSyntax", "loop.example/g01360/impl.errBudget"], ifaces := true, apart := false, laid := [("loop.example/g01360/impl.errInvalid", laid_loop_example_g01360_impl_errInvalid), ("loop.example/g01360/impl.errRange", laid_loop_example_g01360_impl_errRange), ("loop.example/g01360/impl.errLimit", laid_loop_example_g01360_impl_errLimit), ("loop.example/g01360/impl.errState", laid_loop_example_g01360_impl_errState), ("loop.example/g01360/impl.errSyntax", laid_loop_example_g01360_impl_errSyntax), ("loop.example/g01360/impl.errBudget", laid_loop_example_g01360_impl_errBudget)], narrowed := true }
def FnExactWettestSheetUptoSaid : Prop := fnExactWettestSheetUptoRow.holds Tryd.pinned (OpenSpec.upto fnExactWettestSheetSpec)

/-- 'laws.FnExactDryStack', WHERE WHAT IT READS IS OF BULK AT MOST 1048576: true; the input reads as it did. -/
def fnExactDryStackUptoRow : OpenClaim := { program := "ytfhfiaphdgfmnaadoor", sum := "b022ca3741a56775e8388bb911918d717b91eff172e2956a5f67659332728642", func := "loop.example/g01360/laws.FnExactDryStack", spec := "fnExactDryStack", inPlace := ["internal/reflectlite.TypeOf"], unfollowed := true, recurses := true, named := ["loop.example/g01360/impl.errRange", "loop.example/g01360/impl.errInvalid", "loop.example/g01360/impl.errLimit", "loop.example/g01360/impl.errState", "loop.example/g01360/impl.errSyntax", "loop.example/g01360/impl.errBudget"], ifaces := true, apart := false, laid := [("loop.example/g01360/impl.errInvalid", laid_loop_example_g01360_impl_errInvalid), ("loop.example/g01360/impl.errRange", laid_loop_example_g01360_impl_errRange), ("loop.example/g01360/impl.errLimit", laid_loop_example_g01360_impl_errLimit), ("loop.example/g01360/impl.errState", laid_loop_example_g01360_impl_errState), ("loop.example/g01360/impl.errSyntax", laid_loop_example_g01360_impl_errSyntax), ("loop.example/g01360/impl.errBudget", laid_loop_example_g01360_impl_errBudget)], narrowed := true }
def FnExactDryStackUptoSaid : Prop := fnExactDryStackUptoRow.holds Tryd.pinned (OpenSpec.upto fnExactDryStackSpec)

end Rows
end Go.Proofs.YtfhfiaphdgfmnaaDoor
