/-
  NARROWER THAN 'FOR EVERY INPUT', by the rows' own cells (each row's printed sentence says how): FnExactWetAt: ifaces, laid · FnExactDyeAt: ifaces, laid · FnExactDarkAt: ifaces, laid · FnExactDropInk: ifaces, laid · FnExactWaxCell: ifaces, laid · FnExactIsWaxed: ifaces, laid · FnExactWaterIn: ifaces, laid · FnExactColourAt: ifaces, laid · FnExactDryAll: ifaces, laid · FnExactCodeName: laid · FnExactTurnSheet: ifaces, laid · FnExactCutSheet: ifaces, laid.
  DERIVED. THE GIVEN ROWS OF THIS SEAT. 12 by the template 'for every input the law returns true; each argument reads behind the call as it read before'; 0 by the template 'total and deterministic' (their statements: YtfdjlflnhhiecaaDoorTotals.lean).
  GIVEN WITH THE SEED: the statements are not yours to turn. If you find one false, say at which input.
  Laid BY PROGRAM, IN A SANDBOX (cutbox-rows.mjs): the forced cells as the released guide's own fill.sh prints them over the translation 634ce7db850b17cf… (all of the seat's roots in one cut). By AI agents, Wed Nov 11 2026. No macro, syntax, notation, axiom, sorry.
-/
import Derived.Test.YtfdjlflnhhiecaaDoorChecked
import GoSem.Claim
import GoSem.ClaimJoined
import GoSem.ClaimMapViews
import Derived.JoinedTies
import Derived.KernelRfl
namespace Go.Proofs.YtfdjlflnhhiecaaDoor
/- THE CELL 'sum', in the pinned program and in every row, IS THE sha256 OF THE DUMP (.gsa) THAT YtfdjlflnhhiecaaDoorProg.lean LOADS. Nothing in Lean hashes anything: it is a label: what it is worth is what the hold of that sum in a sandbox is worth. -/
noncomputable def Tryd.pinned : Pinned := { name := "ytfdjlflnhhiecaadoor", sum := "634ce7db850b17cf8d1c2c2010f6242fabd47b72d21c638633f247adb80eac97", checked := Tryd.checked }
namespace Rows
def none {H : Type} : Left H := { results := [], args := [] }

/- WHAT THE LISTED PACKAGE-LEVEL VARIABLES READ AS WHEN THE CALL BEGINS. Each datum BY PROGRAM (the guide's laid-datum.mjs) off the statement by which the dump's own 'gosem.cut.vars' lays the variable. In a bare row this is a premise. The card (YtfdjlflnhhiecaaDoorCards.lean) ties it to the program's text. -/
def laid_loop_example_g01360_impl_errInvalid {H : Type} : DataW H := .iface "*errors.errorString" (.ptr (.agg [.lit (.string [105, 110, 118, 97, 108, 105, 100])]))
def laid_loop_example_g01360_impl_errRange {H : Type} : DataW H := .iface "*errors.errorString" (.ptr (.agg [.lit (.string [114, 97, 110, 103, 101])]))
def laid_loop_example_g01360_impl_errLimit {H : Type} : DataW H := .iface "*errors.errorString" (.ptr (.agg [.lit (.string [108, 105, 109, 105, 116])]))
def laid_loop_example_g01360_impl_errState {H : Type} : DataW H := .iface "*errors.errorString" (.ptr (.agg [.lit (.string [115, 116, 97, 116, 101])]))
def laid_loop_example_g01360_impl_errSyntax {H : Type} : DataW H := .iface "*errors.errorString" (.ptr (.agg [.lit (.string [115, 121, 110, 116, 97, 120])]))
def laid_loop_example_g01360_impl_errBudget {H : Type} : DataW H := .iface "*errors.errorString" (.ptr (.agg [.lit (.string [98, 117, 100, 103, 101, 116])]))
def laid_loop_example_g01360_impl_codeNames {H : Type} : DataW H := .agg [.lit (.string [111, 107]), .lit (.string [105, 110, 118, 97, 108, 105, 100]), .lit (.string [114, 97, 110, 103, 101]), .lit (.string [108, 105, 109, 105, 116]), .lit (.string [115, 116, 97, 116, 101]), .lit (.string [115, 121, 110, 116, 97, 120]), .lit (.string [110, 111, 116, 102, 111, 117, 110, 100]), .lit (.string [98, 117, 100, 103, 101, 116]), .lit (.string [112, 114, 111, 111, 102])]

/-- 'laws.FnExactWetAt': WHATEVER THE INPUT: true; the input reads as it did. -/
def fnExactWetAtSpec : ChangeSpec := { name := "fnExactWetAt", vars := ["loop.example/g01360/impl.errRange", "loop.example/g01360/impl.errInvalid", "loop.example/g01360/impl.errLimit", "loop.example/g01360/impl.errState", "loop.example/g01360/impl.errSyntax", "loop.example/g01360/impl.errBudget"], fn := fun _ => fun
  | [d1, d2, g1, g2, g3, g4, g5, g6] => { results := [.lit (.bool true)], args := [d1, d2], vars := [g1, g2, g3, g4, g5, g6] }
  | _ => none }
def fnExactWetAtRow : OpenClaim := { program := "ytfdjlflnhhiecaadoor", sum := "634ce7db850b17cf8d1c2c2010f6242fabd47b72d21c638633f247adb80eac97", func := "loop.example/g01360/laws.FnExactWetAt", spec := "fnExactWetAt", inPlace := ["internal/reflectlite.TypeOf"], unfollowed := true, recurses := true, named := ["loop.example/g01360/impl.errRange", "loop.example/g01360/impl.errInvalid", "loop.example/g01360/impl.errLimit", "loop.example/g01360/impl.errState", "loop.example/g01360/impl.errSyntax", "loop.example/g01360/impl.errBudget"], ifaces := true, apart := false, laid := [("loop.example/g01360/impl.errInvalid", laid_loop_example_g01360_impl_errInvalid), ("loop.example/g01360/impl.errRange", laid_loop_example_g01360_impl_errRange), ("loop.example/g01360/impl.errLimit", laid_loop_example_g01360_impl_errLimit), ("loop.example/g01360/impl.errState", laid_loop_example_g01360_impl_errState), ("loop.example/g01360/impl.errSyntax", laid_loop_example_g01360_impl_errSyntax), ("loop.example/g01360/impl.errBudget", laid_loop_example_g01360_impl_errBudget)] }
def FnExactWetAtSaid : Prop := fnExactWetAtRow.holds Tryd.pinned (OpenSpec.ofChange fnExactWetAtSpec)

/-- ITS FALSE NEIGHBOUR: 'it returns false'. Refute it at one input. -/
def fnExactWetAtWrong : ChangeSpec := { name := "fnExactWetAt", vars := ["loop.example/g01360/impl.errRange", "loop.example/g01360/impl.errInvalid", "loop.example/g01360/impl.errLimit", "loop.example/g01360/impl.errState", "loop.example/g01360/impl.errSyntax", "loop.example/g01360/impl.errBudget"], fn := fun _ => fun
  | [d1, d2, g1, g2, g3, g4, g5, g6] => { results := [.lit (.bool false)], args := [d1, d2], vars := [g1, g2, g3, g4, g5, g6] }
  | _ => none }
def FnExactWetAtWrongFalsely : Prop := fnExactWetAtRow.holds Tryd.pinned (OpenSpec.ofChange fnExactWetAtWrong)

/-- 'laws.FnExactDyeAt': WHATEVER THE INPUT: true; the input reads as it did. -/
def fnExactDyeAtSpec : ChangeSpec := { name := "fnExactDyeAt", vars := ["loop.example/g01360/impl.errRange", "loop.example/g01360/impl.errInvalid", "loop.example/g01360/impl.errLimit", "loop.example/g01360/impl.errState", "loop.example/g01360/impl.errSyntax", "loop.example/g01360/impl.errBudget"], fn := fun _ => fun
  | [d1, d2, d3, g1, g2, g3, g4, g5, g6] => { results := [.lit (.bool true)], args := [d1, d2, d3], vars := [g1, g2, g3, g4, g5, g6] }
  | _ => none }
def fnExactDyeAtRow : OpenClaim := { program := "ytfdjlflnhhiecaadoor", sum := "634ce7db850b17cf8d1c2c2010f6242fabd47b72d21c638633f247adb80eac97", func := "loop.example/g01360/laws.FnExactDyeAt", spec := "fnExactDyeAt", inPlace := ["internal/reflectlite.TypeOf"], unfollowed := true, recurses := true, named := ["loop.example/g01360/impl.errRange", "loop.example/g01360/impl.errInvalid", "loop.example/g01360/impl.errLimit", "loop.example/g01360/impl.errState", "loop.example/g01360/impl.errSyntax", "loop.example/g01360/impl.errBudget"], ifaces := true, apart := false, laid := [("loop.example/g01360/impl.errInvalid", laid_loop_example_g01360_impl_errInvalid), ("loop.example/g01360/impl.errRange", laid_loop_example_g01360_impl_errRange), ("loop.example/g01360/impl.errLimit", laid_loop_example_g01360_impl_errLimit), ("loop.example/g01360/impl.errState", laid_loop_example_g01360_impl_errState), ("loop.example/g01360/impl.errSyntax", laid_loop_example_g01360_impl_errSyntax), ("loop.example/g01360/impl.errBudget", laid_loop_example_g01360_impl_errBudget)] }
def FnExactDyeAtSaid : Prop := fnExactDyeAtRow.holds Tryd.pinned (OpenSpec.ofChange fnExactDyeAtSpec)

/-- ITS FALSE NEIGHBOUR: 'it returns false'. Refute it at one input. -/
def fnExactDyeAtWrong : ChangeSpec := { name := "fnExactDyeAt", vars := ["loop.example/g01360/impl.errRange", "loop.example/g01360/impl.errInvalid", "loop.example/g01360/impl.errLimit", "loop.example/g01360/impl.errState", "loop.example/g01360/impl.errSyntax", "loop.example/g01360/impl.errBudget"], fn := fun _ => fun
  | [d1, d2, d3, g1, g2, g3, g4, g5, g6] => { results := [.lit (.bool false)], args := [d1, d2, d3], vars := [g1, g2, g3, g4, g5, g6] }
  | _ => none }
def FnExactDyeAtWrongFalsely : Prop := fnExactDyeAtRow.holds Tryd.pinned (OpenSpec.ofChange fnExactDyeAtWrong)

/-- 'laws.FnExactDarkAt': WHATEVER THE INPUT: true; the input reads as it did. -/
def fnExactDarkAtSpec : ChangeSpec := { name := "fnExactDarkAt", vars := ["loop.example/g01360/impl.errRange", "loop.example/g01360/impl.errInvalid", "loop.example/g01360/impl.errLimit", "loop.example/g01360/impl.errState", "loop.example/g01360/impl.errSyntax", "loop.example/g01360/impl.errBudget"], fn := fun _ => fun
  | [d1, d2, g1, g2, g3, g4, g5, g6] => { results := [.lit (.bool true)], args := [d1, d2], vars := [g1, g2, g3, g4, g5, g6] }
  | _ => none }
def fnExactDarkAtRow : OpenClaim := { program := "ytfdjlflnhhiecaadoor", sum := "634ce7db850b17cf8d1c2c2010f6242fabd47b72d21c638633f247adb80eac97", func := "loop.example/g01360/laws.FnExactDarkAt", spec := "fnExactDarkAt", inPlace := ["internal/reflectlite.TypeOf"], unfollowed := true, recurses := true, named := ["loop.example/g01360/impl.errRange", "loop.example/g01360/impl.errInvalid", "loop.example/g01360/impl.errLimit", "loop.example/g01360/impl.errState", "loop.example/g01360/impl.errSyntax", "loop.example/g01360/impl.errBudget"], ifaces := true, apart := false, laid := [("loop.example/g01360/impl.errInvalid", laid_loop_example_g01360_impl_errInvalid), ("loop.example/g01360/impl.errRange", laid_loop_example_g01360_impl_errRange), ("loop.example/g01360/impl.errLimit", laid_loop_example_g01360_impl_errLimit), ("loop.example/g01360/impl.errState", laid_loop_example_g01360_impl_errState), ("loop.example/g01360/impl.errSyntax", laid_loop_example_g01360_impl_errSyntax), ("loop.example/g01360/impl.errBudget", laid_loop_example_g01360_impl_errBudget)] }
def FnExactDarkAtSaid : Prop := fnExactDarkAtRow.holds Tryd.pinned (OpenSpec.ofChange fnExactDarkAtSpec)

/-- ITS FALSE NEIGHBOUR: 'it returns false'. Refute it at one input. -/
def fnExactDarkAtWrong : ChangeSpec := { name := "fnExactDarkAt", vars := ["loop.example/g01360/impl.errRange", "loop.example/g01360/impl.errInvalid", "loop.example/g01360/impl.errLimit", "loop.example/g01360/impl.errState", "loop.example/g01360/impl.errSyntax", "loop.example/g01360/impl.errBudget"], fn := fun _ => fun
  | [d1, d2, g1, g2, g3, g4, g5, g6] => { results := [.lit (.bool false)], args := [d1, d2], vars := [g1, g2, g3, g4, g5, g6] }
  | _ => none }
def FnExactDarkAtWrongFalsely : Prop := fnExactDarkAtRow.holds Tryd.pinned (OpenSpec.ofChange fnExactDarkAtWrong)

/-- 'laws.FnExactDropInk': WHATEVER THE INPUT: true; the input reads as it did. -/
def fnExactDropInkSpec : ChangeSpec := { name := "fnExactDropInk", vars := ["loop.example/g01360/impl.errState", "loop.example/g01360/impl.errLimit", "loop.example/g01360/impl.errRange", "loop.example/g01360/impl.errInvalid", "loop.example/g01360/impl.errSyntax", "loop.example/g01360/impl.errBudget"], fn := fun _ => fun
  | [d1, d2, d3, d4, d5, g1, g2, g3, g4, g5, g6] => { results := [.lit (.bool true)], args := [d1, d2, d3, d4, d5], vars := [g1, g2, g3, g4, g5, g6] }
  | _ => none }
def fnExactDropInkRow : OpenClaim := { program := "ytfdjlflnhhiecaadoor", sum := "634ce7db850b17cf8d1c2c2010f6242fabd47b72d21c638633f247adb80eac97", func := "loop.example/g01360/laws.FnExactDropInk", spec := "fnExactDropInk", inPlace := ["internal/reflectlite.TypeOf"], unfollowed := true, recurses := true, named := ["loop.example/g01360/impl.errState", "loop.example/g01360/impl.errLimit", "loop.example/g01360/impl.errRange", "loop.example/g01360/impl.errInvalid", "loop.example/g01360/impl.errSyntax", "loop.example/g01360/impl.errBudget"], ifaces := true, apart := false, laid := [("loop.example/g01360/impl.errInvalid", laid_loop_example_g01360_impl_errInvalid), ("loop.example/g01360/impl.errRange", laid_loop_example_g01360_impl_errRange), ("loop.example/g01360/impl.errLimit", laid_loop_example_g01360_impl_errLimit), ("loop.example/g01360/impl.errState", laid_loop_example_g01360_impl_errState), ("loop.example/g01360/impl.errSyntax", laid_loop_example_g01360_impl_errSyntax), ("loop.example/g01360/impl.errBudget", laid_loop_example_g01360_impl_errBudget)] }
def FnExactDropInkSaid : Prop := fnExactDropInkRow.holds Tryd.pinned (OpenSpec.ofChange fnExactDropInkSpec)

/-- ITS FALSE NEIGHBOUR: 'it returns false'. Refute it at one input. -/
def fnExactDropInkWrong : ChangeSpec := { name := "fnExactDropInk", vars := ["loop.example/g01360/impl.errState", "loop.example/g01360/impl.errLimit", "loop.example/g01360/impl.errRange", "loop.example/g01360/impl.errInvalid", "loop.example/g01360/impl.errSyntax", "loop.example/g01360/impl.errBudget"], fn := fun _ => fun
  | [d1, d2, d3, d4, d5, g1, g2, g3, g4, g5, g6] => { results := [.lit (.bool false)], args := [d1, d2, d3, d4, d5], vars := [g1, g2, g3, g4, g5, g6] }
  | _ => none }
def FnExactDropInkWrongFalsely : Prop := fnExactDropInkRow.holds Tryd.pinned (OpenSpec.ofChange fnExactDropInkWrong)

/-- 'laws.FnExactWaxCell': WHATEVER THE INPUT: true; the input reads as it did. -/
def fnExactWaxCellSpec : ChangeSpec := { name := "fnExactWaxCell", vars := ["loop.example/g01360/impl.errState", "loop.example/g01360/impl.errRange", "loop.example/g01360/impl.errInvalid", "loop.example/g01360/impl.errLimit", "loop.example/g01360/impl.errSyntax", "loop.example/g01360/impl.errBudget"], fn := fun _ => fun
  | [d1, d2, d3, g1, g2, g3, g4, g5, g6] => { results := [.lit (.bool true)], args := [d1, d2, d3], vars := [g1, g2, g3, g4, g5, g6] }
  | _ => none }
def fnExactWaxCellRow : OpenClaim := { program := "ytfdjlflnhhiecaadoor", sum := "634ce7db850b17cf8d1c2c2010f6242fabd47b72d21c638633f247adb80eac97", func := "loop.example/g01360/laws.FnExactWaxCell", spec := "fnExactWaxCell", inPlace := ["internal/reflectlite.TypeOf"], unfollowed := true, recurses := true, named := ["loop.example/g01360/impl.errState", "loop.example/g01360/impl.errRange", "loop.example/g01360/impl.errInvalid", "loop.example/g01360/impl.errLimit", "loop.example/g01360/impl.errSyntax", "loop.example/g01360/impl.errBudget"], ifaces := true, apart := false, laid := [("loop.example/g01360/impl.errInvalid", laid_loop_example_g01360_impl_errInvalid), ("loop.example/g01360/impl.errRange", laid_loop_example_g01360_impl_errRange), ("loop.example/g01360/impl.errLimit", laid_loop_example_g01360_impl_errLimit), ("loop.example/g01360/impl.errState", laid_loop_example_g01360_impl_errState), ("loop.example/g01360/impl.errSyntax", laid_loop_example_g01360_impl_errSyntax), ("loop.example/g01360/impl.errBudget", laid_loop_example_g01360_impl_errBudget)] }
def FnExactWaxCellSaid : Prop := fnExactWaxCellRow.holds Tryd.pinned (OpenSpec.ofChange fnExactWaxCellSpec)

/-- ITS FALSE NEIGHBOUR: 'it returns false'. Refute it at one input. -/
def fnExactWaxCellWrong : ChangeSpec := { name := "fnExactWaxCell", vars := ["loop.example/g01360/impl.errState", "loop.example/g01360/impl.errRange", "loop.example/g01360/impl.errInvalid", "loop.example/g01360/impl.errLimit", "loop.example/g01360/impl.errSyntax", "loop.example/g01360/impl.errBudget"], fn := fun _ => fun
  | [d1, d2, d3, g1, g2, g3, g4, g5, g6] => { results := [.lit (.bool false)], args := [d1, d2, d3], vars := [g1, g2, g3, g4, g5, g6] }
  | _ => none }
def FnExactWaxCellWrongFalsely : Prop := fnExactWaxCellRow.holds Tryd.pinned (OpenSpec.ofChange fnExactWaxCellWrong)

/-- 'laws.FnExactIsWaxed': WHATEVER THE INPUT: true; the input reads as it did. -/
def fnExactIsWaxedSpec : ChangeSpec := { name := "fnExactIsWaxed", vars := ["loop.example/g01360/impl.errRange", "loop.example/g01360/impl.errInvalid", "loop.example/g01360/impl.errLimit", "loop.example/g01360/impl.errState", "loop.example/g01360/impl.errSyntax", "loop.example/g01360/impl.errBudget"], fn := fun _ => fun
  | [d1, d2, g1, g2, g3, g4, g5, g6] => { results := [.lit (.bool true)], args := [d1, d2], vars := [g1, g2, g3, g4, g5, g6] }
  | _ => none }
def fnExactIsWaxedRow : OpenClaim := { program := "ytfdjlflnhhiecaadoor", sum := "634ce7db850b17cf8d1c2c2010f6242fabd47b72d21c638633f247adb80eac97", func := "loop.example/g01360/laws.FnExactIsWaxed", spec := "fnExactIsWaxed", inPlace := ["internal/reflectlite.TypeOf"], unfollowed := true, recurses := true, named := ["loop.example/g01360/impl.errRange", "loop.example/g01360/impl.errInvalid", "loop.example/g01360/impl.errLimit", "loop.example/g01360/impl.errState", "loop.example/g01360/impl.errSyntax", "loop.example/g01360/impl.errBudget"], ifaces := true, apart := false, laid := [("loop.example/g01360/impl.errInvalid", laid_loop_example_g01360_impl_errInvalid), ("loop.example/g01360/impl.errRange", laid_loop_example_g01360_impl_errRange), ("loop.example/g01360/impl.errLimit", laid_loop_example_g01360_impl_errLimit), ("loop.example/g01360/impl.errState", laid_loop_example_g01360_impl_errState), ("loop.example/g01360/impl.errSyntax", laid_loop_example_g01360_impl_errSyntax), ("loop.example/g01360/impl.errBudget", laid_loop_example_g01360_impl_errBudget)] }
def FnExactIsWaxedSaid : Prop := fnExactIsWaxedRow.holds Tryd.pinned (OpenSpec.ofChange fnExactIsWaxedSpec)

/-- ITS FALSE NEIGHBOUR: 'it returns false'. Refute it at one input. -/
def fnExactIsWaxedWrong : ChangeSpec := { name := "fnExactIsWaxed", vars := ["loop.example/g01360/impl.errRange", "loop.example/g01360/impl.errInvalid", "loop.example/g01360/impl.errLimit", "loop.example/g01360/impl.errState", "loop.example/g01360/impl.errSyntax", "loop.example/g01360/impl.errBudget"], fn := fun _ => fun
  | [d1, d2, g1, g2, g3, g4, g5, g6] => { results := [.lit (.bool false)], args := [d1, d2], vars := [g1, g2, g3, g4, g5, g6] }
  | _ => none }
def FnExactIsWaxedWrongFalsely : Prop := fnExactIsWaxedRow.holds Tryd.pinned (OpenSpec.ofChange fnExactIsWaxedWrong)

/-- 'laws.FnExactWaterIn': WHATEVER THE INPUT: true; the input reads as it did. -/
def fnExactWaterInSpec : ChangeSpec := { name := "fnExactWaterIn", vars := ["loop.example/g01360/impl.errInvalid", "loop.example/g01360/impl.errRange", "loop.example/g01360/impl.errLimit", "loop.example/g01360/impl.errState", "loop.example/g01360/impl.errSyntax", "loop.example/g01360/impl.errBudget"], fn := fun _ => fun
  | [d, g1, g2, g3, g4, g5, g6] => { results := [.lit (.bool true)], args := [d], vars := [g1, g2, g3, g4, g5, g6] }
  | _ => none }
def fnExactWaterInRow : OpenClaim := { program := "ytfdjlflnhhiecaadoor", sum := "634ce7db850b17cf8d1c2c2010f6242fabd47b72d21c638633f247adb80eac97", func := "loop.example/g01360/laws.FnExactWaterIn", spec := "fnExactWaterIn", inPlace := ["internal/reflectlite.TypeOf"], unfollowed := true, recurses := true, named := ["loop.example/g01360/impl.errInvalid", "loop.example/g01360/impl.errRange", "loop.example/g01360/impl.errLimit", "loop.example/g01360/impl.errState", "loop.example/g01360/impl.errSyntax", "loop.example/g01360/impl.errBudget"], ifaces := true, apart := false, laid := [("loop.example/g01360/impl.errInvalid", laid_loop_example_g01360_impl_errInvalid), ("loop.example/g01360/impl.errRange", laid_loop_example_g01360_impl_errRange), ("loop.example/g01360/impl.errLimit", laid_loop_example_g01360_impl_errLimit), ("loop.example/g01360/impl.errState", laid_loop_example_g01360_impl_errState), ("loop.example/g01360/impl.errSyntax", laid_loop_example_g01360_impl_errSyntax), ("loop.example/g01360/impl.errBudget", laid_loop_example_g01360_impl_errBudget)] }
def FnExactWaterInSaid : Prop := fnExactWaterInRow.holds Tryd.pinned (OpenSpec.ofChange fnExactWaterInSpec)

/-- ITS FALSE NEIGHBOUR: 'it returns false'. Refute it at one input. -/
def fnExactWaterInWrong : ChangeSpec := { name := "fnExactWaterIn", vars := ["loop.example/g01360/impl.errInvalid", "loop.example/g01360/impl.errRange", "loop.example/g01360/impl.errLimit", "loop.example/g01360/impl.errState", "loop.example/g01360/impl.errSyntax", "loop.example/g01360/impl.errBudget"], fn := fun _ => fun
  | [d, g1, g2, g3, g4, g5, g6] => { results := [.lit (.bool false)], args := [d], vars := [g1, g2, g3, g4, g5, g6] }
  | _ => none }
def FnExactWaterInWrongFalsely : Prop := fnExactWaterInRow.holds Tryd.pinned (OpenSpec.ofChange fnExactWaterInWrong)

/-- 'laws.FnExactColourAt': WHATEVER THE INPUT: true; the input reads as it did. -/
def fnExactColourAtSpec : ChangeSpec := { name := "fnExactColourAt", vars := ["loop.example/g01360/impl.errRange", "loop.example/g01360/impl.errInvalid", "loop.example/g01360/impl.errLimit", "loop.example/g01360/impl.errState", "loop.example/g01360/impl.errSyntax", "loop.example/g01360/impl.errBudget"], fn := fun _ => fun
  | [d1, d2, g1, g2, g3, g4, g5, g6] => { results := [.lit (.bool true)], args := [d1, d2], vars := [g1, g2, g3, g4, g5, g6] }
  | _ => none }
def fnExactColourAtRow : OpenClaim := { program := "ytfdjlflnhhiecaadoor", sum := "634ce7db850b17cf8d1c2c2010f6242fabd47b72d21c638633f247adb80eac97", func := "loop.example/g01360/laws.FnExactColourAt", spec := "fnExactColourAt", inPlace := ["internal/reflectlite.TypeOf"], unfollowed := true, recurses := true, named := ["loop.example/g01360/impl.errRange", "loop.example/g01360/impl.errInvalid", "loop.example/g01360/impl.errLimit", "loop.example/g01360/impl.errState", "loop.example/g01360/impl.errSyntax", "loop.example/g01360/impl.errBudget"], ifaces := true, apart := false, laid := [("loop.example/g01360/impl.errInvalid", laid_loop_example_g01360_impl_errInvalid), ("loop.example/g01360/impl.errRange", laid_loop_example_g01360_impl_errRange), ("loop.example/g01360/impl.errLimit", laid_loop_example_g01360_impl_errLimit), ("loop.example/g01360/impl.errState", laid_loop_example_g01360_impl_errState), ("loop.example/g01360/impl.errSyntax", laid_loop_example_g01360_impl_errSyntax), ("loop.example/g01360/impl.errBudget", laid_loop_example_g01360_impl_errBudget)] }
def FnExactColourAtSaid : Prop := fnExactColourAtRow.holds Tryd.pinned (OpenSpec.ofChange fnExactColourAtSpec)

/-- ITS FALSE NEIGHBOUR: 'it returns false'. Refute it at one input. -/
def fnExactColourAtWrong : ChangeSpec := { name := "fnExactColourAt", vars := ["loop.example/g01360/impl.errRange", "loop.example/g01360/impl.errInvalid", "loop.example/g01360/impl.errLimit", "loop.example/g01360/impl.errState", "loop.example/g01360/impl.errSyntax", "loop.example/g01360/impl.errBudget"], fn := fun _ => fun
  | [d1, d2, g1, g2, g3, g4, g5, g6] => { results := [.lit (.bool false)], args := [d1, d2], vars := [g1, g2, g3, g4, g5, g6] }
  | _ => none }
def FnExactColourAtWrongFalsely : Prop := fnExactColourAtRow.holds Tryd.pinned (OpenSpec.ofChange fnExactColourAtWrong)

/-- 'laws.FnExactDryAll': WHATEVER THE INPUT: true; the input reads as it did. -/
def fnExactDryAllSpec : ChangeSpec := { name := "fnExactDryAll", vars := ["loop.example/g01360/impl.errInvalid", "loop.example/g01360/impl.errRange", "loop.example/g01360/impl.errLimit", "loop.example/g01360/impl.errState", "loop.example/g01360/impl.errSyntax", "loop.example/g01360/impl.errBudget"], fn := fun _ => fun
  | [d, g1, g2, g3, g4, g5, g6] => { results := [.lit (.bool true)], args := [d], vars := [g1, g2, g3, g4, g5, g6] }
  | _ => none }
def fnExactDryAllRow : OpenClaim := { program := "ytfdjlflnhhiecaadoor", sum := "634ce7db850b17cf8d1c2c2010f6242fabd47b72d21c638633f247adb80eac97", func := "loop.example/g01360/laws.FnExactDryAll", spec := "fnExactDryAll", inPlace := ["internal/reflectlite.TypeOf"], unfollowed := true, recurses := true, named := ["loop.example/g01360/impl.errInvalid", "loop.example/g01360/impl.errRange", "loop.example/g01360/impl.errLimit", "loop.example/g01360/impl.errState", "loop.example/g01360/impl.errSyntax", "loop.example/g01360/impl.errBudget"], ifaces := true, apart := false, laid := [("loop.example/g01360/impl.errInvalid", laid_loop_example_g01360_impl_errInvalid), ("loop.example/g01360/impl.errRange", laid_loop_example_g01360_impl_errRange), ("loop.example/g01360/impl.errLimit", laid_loop_example_g01360_impl_errLimit), ("loop.example/g01360/impl.errState", laid_loop_example_g01360_impl_errState), ("loop.example/g01360/impl.errSyntax", laid_loop_example_g01360_impl_errSyntax), ("loop.example/g01360/impl.errBudget", laid_loop_example_g01360_impl_errBudget)] }
def FnExactDryAllSaid : Prop := fnExactDryAllRow.holds Tryd.pinned (OpenSpec.ofChange fnExactDryAllSpec)

/-- ITS FALSE NEIGHBOUR: 'it returns false'. Refute it at one input. -/
def fnExactDryAllWrong : ChangeSpec := { name := "fnExactDryAll", vars := ["loop.example/g01360/impl.errInvalid", "loop.example/g01360/impl.errRange", "loop.example/g01360/impl.errLimit", "loop.example/g01360/impl.errState", "loop.example/g01360/impl.errSyntax", "loop.example/g01360/impl.errBudget"], fn := fun _ => fun
  | [d, g1, g2, g3, g4, g5, g6] => { results := [.lit (.bool false)], args := [d], vars := [g1, g2, g3, g4, g5, g6] }
  | _ => none }
def FnExactDryAllWrongFalsely : Prop := fnExactDryAllRow.holds Tryd.pinned (OpenSpec.ofChange fnExactDryAllWrong)

/-- 'laws.FnExactCodeName': WHATEVER THE INPUT: true; the input reads as it did. -/
def fnExactCodeNameSpec : ChangeSpec := { name := "fnExactCodeName", vars := ["loop.example/g01360/impl.codeNames"], fn := fun _ => fun
  | [d, g1] => { results := [.lit (.bool true)], args := [d], vars := [g1] }
  | _ => none }
def fnExactCodeNameRow : OpenClaim := { program := "ytfdjlflnhhiecaadoor", sum := "634ce7db850b17cf8d1c2c2010f6242fabd47b72d21c638633f247adb80eac97", func := "loop.example/g01360/laws.FnExactCodeName", spec := "fnExactCodeName", named := ["loop.example/g01360/impl.codeNames"], apart := false, laid := [("loop.example/g01360/impl.codeNames", laid_loop_example_g01360_impl_codeNames)] }
def FnExactCodeNameSaid : Prop := fnExactCodeNameRow.holds Tryd.pinned (OpenSpec.ofChange fnExactCodeNameSpec)

/-- ITS FALSE NEIGHBOUR: 'it returns false'. Refute it at one input. -/
def fnExactCodeNameWrong : ChangeSpec := { name := "fnExactCodeName", vars := ["loop.example/g01360/impl.codeNames"], fn := fun _ => fun
  | [d, g1] => { results := [.lit (.bool false)], args := [d], vars := [g1] }
  | _ => none }
def FnExactCodeNameWrongFalsely : Prop := fnExactCodeNameRow.holds Tryd.pinned (OpenSpec.ofChange fnExactCodeNameWrong)

/-- 'laws.FnExactTurnSheet': WHATEVER THE INPUT: true; the input reads as it did. -/
def fnExactTurnSheetSpec : ChangeSpec := { name := "fnExactTurnSheet", vars := ["loop.example/g01360/impl.errInvalid", "loop.example/g01360/impl.errRange", "loop.example/g01360/impl.errLimit", "loop.example/g01360/impl.errState", "loop.example/g01360/impl.errSyntax", "loop.example/g01360/impl.errBudget"], fn := fun _ => fun
  | [d, g1, g2, g3, g4, g5, g6] => { results := [.lit (.bool true)], args := [d], vars := [g1, g2, g3, g4, g5, g6] }
  | _ => none }
def fnExactTurnSheetRow : OpenClaim := { program := "ytfdjlflnhhiecaadoor", sum := "634ce7db850b17cf8d1c2c2010f6242fabd47b72d21c638633f247adb80eac97", func := "loop.example/g01360/laws.FnExactTurnSheet", spec := "fnExactTurnSheet", inPlace := ["internal/reflectlite.TypeOf"], unfollowed := true, recurses := true, named := ["loop.example/g01360/impl.errInvalid", "loop.example/g01360/impl.errRange", "loop.example/g01360/impl.errLimit", "loop.example/g01360/impl.errState", "loop.example/g01360/impl.errSyntax", "loop.example/g01360/impl.errBudget"], ifaces := true, apart := false, laid := [("loop.example/g01360/impl.errInvalid", laid_loop_example_g01360_impl_errInvalid), ("loop.example/g01360/impl.errRange", laid_loop_example_g01360_impl_errRange), ("loop.example/g01360/impl.errLimit", laid_loop_example_g01360_impl_errLimit), ("loop.example/g01360/impl.errState", laid_loop_example_g01360_impl_errState), ("loop.example/g01360/impl.errSyntax", laid_loop_example_g01360_impl_errSyntax), ("loop.example/g01360/impl.errBudget", laid_loop_example_g01360_impl_errBudget)] }
def FnExactTurnSheetSaid : Prop := fnExactTurnSheetRow.holds Tryd.pinned (OpenSpec.ofChange fnExactTurnSheetSpec)

/-- ITS FALSE NEIGHBOUR: 'it returns false'. Refute it at one input. -/
def fnExactTurnSheetWrong : ChangeSpec := { name := "fnExactTurnSheet", vars := ["loop.example/g01360/impl.errInvalid", "loop.example/g01360/impl.errRange", "loop.example/g01360/impl.errLimit", "loop.example/g01360/impl.errState", "loop.example/g01360/impl.errSyntax", "loop.example/g01360/impl.errBudget"], fn := fun _ => fun
  | [d, g1, g2, g3, g4, g5, g6] => { results := [.lit (.bool false)], args := [d], vars := [g1, g2, g3, g4, g5, g6] }
  | _ => none }
def FnExactTurnSheetWrongFalsely : Prop := fnExactTurnSheetRow.holds Tryd.pinned (OpenSpec.ofChange fnExactTurnSheetWrong)

/-- 'laws.FnExactCutSheet': WHATEVER THE INPUT: true; the input reads as it did. -/
def fnExactCutSheetSpec : ChangeSpec := { name := "fnExactCutSheet", vars := ["loop.example/g01360/impl.errRange", "loop.example/g01360/impl.errInvalid", "loop.example/g01360/impl.errLimit", "loop.example/g01360/impl.errState", "loop.example/g01360/impl.errSyntax", "loop.example/g01360/impl.errBudget"], fn := fun _ => fun
  | [d1, d2, d3, d4, g1, g2, g3, g4, g5, g6] => { results := [.lit (.bool true)], args := [d1, d2, d3, d4], vars := [g1, g2, g3, g4, g5, g6] }
  | _ => none }
def fnExactCutSheetRow : OpenClaim := { program := "ytfdjlflnhhiecaadoor", sum := "634ce7db850b17cf8d1c2c2010f6242fabd47b72d21c638633f247adb80eac97", func := "loop.example/g01360/laws.FnExactCutSheet", spec := "fnExactCutSheet", inPlace := ["internal/reflectlite.TypeOf"], unfollowed := true, recurses := true, named := ["loop.example/g01360/impl.errRange", "loop.example/g01360/impl.errInvalid", "loop.example/g01360/impl.errLimit", "loop.example/g01360/impl.errState", "loop.example/g01360/impl.errSyntax", "loop.example/g01360/impl.errBudget"], ifaces := true, apart := false, laid := [("loop.example/g01360/impl.errInvalid", laid_loop_example_g01360_impl_errInvalid), ("loop.example/g01360/impl.errRange", laid_loop_example_g01360_impl_errRange), ("loop.example/g01360/impl.errLimit", laid_loop_example_g01360_impl_errLimit), ("loop.example/g01360/impl.errState", laid_loop_example_g01360_impl_errState), ("loop.example/g01360/impl.errSyntax", laid_loop_example_g01360_impl_errSyntax), ("loop.example/g01360/impl.errBudget", laid_loop_example_g01360_impl_errBudget)] }
def FnExactCutSheetSaid : Prop := fnExactCutSheetRow.holds Tryd.pinned (OpenSpec.ofChange fnExactCutSheetSpec)

/-- ITS FALSE NEIGHBOUR: 'it returns false'. Refute it at one input. -/
def fnExactCutSheetWrong : ChangeSpec := { name := "fnExactCutSheet", vars := ["loop.example/g01360/impl.errRange", "loop.example/g01360/impl.errInvalid", "loop.example/g01360/impl.errLimit", "loop.example/g01360/impl.errState", "loop.example/g01360/impl.errSyntax", "loop.example/g01360/impl.errBudget"], fn := fun _ => fun
  | [d1, d2, d3, d4, g1, g2, g3, g4, g5, g6] => { results := [.lit (.bool false)], args := [d1, d2, d3, d4], vars := [g1, g2, g3, g4, g5, g6] }
  | _ => none }
def FnExactCutSheetWrongFalsely : Prop := fnExactCutSheetRow.holds Tryd.pinned (OpenSpec.ofChange fnExactCutSheetWrong)

/- THE SECOND FORM. 'bulk': how many values and letters a reading holds, each counted each time it is reached (what is shared counts as often as it is met; a slice's spare places count too). A statement '..UptoSaid' is the law's where the arguments, and the package variables that the reading takes, are together of bulk at most 1048576: NARROWER than '..Said'. Prove '..Said' where nothing that the law and all that it calls make is longer than what came in: it says more and counts as full. Else prove '..UptoSaid'. A law counts once. -/
mutual
def uptoBulk {H : Type} : DataW H → Nat
  | .lit (.string bytes) => bytes.length + 1
  | .lit _ => 1
  | .nil => 1
  | .ptr d => uptoBulk d + 1
  | .slice elems spare => uptoBulkAll elems + uptoBulkAll spare + 1
  | .agg parts => uptoBulkAll parts + 1
  | .iface _ d => uptoBulk d + 1
  | .map entries => uptoBulkEntries entries + 1
  | .held _ => 1
def uptoBulkAll {H : Type} : List (DataW H) → Nat
  | [] => 0
  | d :: r => uptoBulk d + uptoBulkAll r
def uptoBulkEntries {H : Type} : List (Lit × DataW H) → Nat
  | [] => 0
  | x :: r => uptoBulkEntry x + uptoBulkEntries r
def uptoBulkEntry {H : Type} : Lit × DataW H → Nat
  | (.string bytes, d) => bytes.length + uptoBulk d + 1
  | (_, d) => uptoBulk d + 1
 end
def uptoSmall : (H : Type) → List (DataW H) → Bool := fun _ ds => decide (uptoBulkAll ds ≤ 1048576)
def OpenSpec.upto (s : _root_.Go.ChangeSpec) : _root_.Go.OpenSpec := { _root_.Go.OpenSpec.ofChange s with cond := some uptoSmall }

/-- 'laws.FnExactWetAt', WHERE WHAT IT READS IS OF BULK AT MOST 1048576: true; the input reads as it did. -/
def fnExactWetAtUptoRow : OpenClaim := { program := "ytfdjlflnhhiecaadoor", sum := "634ce7db850b17cf8d1c2c2010f6242fabd47b72d21c638633f247adb80eac97", func := "loop.example/g01360/laws.FnExactWetAt", spec := "fnExactWetAt", inPlace := ["internal/reflectlite.TypeOf"], unfollowed := true, recurses := true, named := ["loop.example/g01360/impl.errRange", "loop.example/g01360/impl.errInvalid", "loop.example/g01360/impl.errLimit", "loop.example/g01360/impl.errState", "loop.example/g01360/impl.errSyntax", "loop.example/g01360/impl.errBudget"], ifaces := true, apart := false, laid := [("loop.example/g01360/impl.errInvalid", laid_loop_example_g01360_impl_errInvalid), ("loop.example/g01360/impl.errRange", laid_loop_example_g01360_impl_errRange), ("loop.example/g01360/impl.errLimit", laid_loop_example_g01360_impl_errLimit), ("loop.example/g01360/impl.errState", laid_loop_example_g01360_impl_errState), ("loop.example/g01360/impl.errSyntax", laid_loop_example_g01360_impl_errSyntax), ("loop.example/g01360/impl.errBudget", laid_loop_example_g01360_impl_errBudget)], narrowed := true }
def FnExactWetAtUptoSaid : Prop := fnExactWetAtUptoRow.holds Tryd.pinned (OpenSpec.upto fnExactWetAtSpec)

/-- 'laws.FnExactDyeAt', WHERE WHAT IT READS IS OF BULK AT MOST 1048576: true; the input reads as it did. -/
def fnExactDyeAtUptoRow : OpenClaim := { program := "ytfdjlflnhhiecaadoor", sum := "634ce7db850b17cf8d1c2c2010f6242fabd47b72d21c638633f247adb80eac97", func := "loop.example/g01360/laws.FnExactDyeAt", spec := "fnExactDyeAt", inPlace := ["internal/reflectlite.TypeOf"], unfollowed := true, recurses := true, named := ["loop.example/g01360/impl.errRange", "loop.example/g01360/impl.errInvalid", "loop.example/g01360/impl.errLimit", "loop.example/g01360/impl.errState", "loop.example/g01360/impl.errSyntax", "loop.example/g01360/impl.errBudget"], ifaces := true, apart := false, laid := [("loop.example/g01360/impl.errInvalid", laid_loop_example_g01360_impl_errInvalid), ("loop.example/g01360/impl.errRange", laid_loop_example_g01360_impl_errRange), ("loop.example/g01360/impl.errLimit", laid_loop_example_g01360_impl_errLimit), ("loop.example/g01360/impl.errState", laid_loop_example_g01360_impl_errState), ("loop.example/g01360/impl.errSyntax", laid_loop_example_g01360_impl_errSyntax), ("loop.example/g01360/impl.errBudget", laid_loop_example_g01360_impl_errBudget)], narrowed := true }
def FnExactDyeAtUptoSaid : Prop := fnExactDyeAtUptoRow.holds Tryd.pinned (OpenSpec.upto fnExactDyeAtSpec)

/-- 'laws.FnExactDarkAt', WHERE WHAT IT READS IS OF BULK AT MOST 1048576: true; the input reads as it did. -/
def fnExactDarkAtUptoRow : OpenClaim := { program := "ytfdjlflnhhiecaadoor", sum := "634ce7db850b17cf8d1c2c2010f6242fabd47b72d21c638633f247adb80eac97", func := "loop.example/g01360/laws.FnExactDarkAt", spec := "fnExactDarkAt", inPlace := ["internal/reflectlite.TypeOf"], unfollowed := true, recurses := true, named := ["loop.example/g01360/impl.errRange", "loop.example/g01360/impl.errInvalid", "loop.example/g01360/impl.errLimit", "loop.example/g01360/impl.errState", "loop.example/g01360/impl.errSyntax", "loop.example/g01360/impl.errBudget"], ifaces := true, apart := false, laid := [("loop.example/g01360/impl.errInvalid", laid_loop_example_g01360_impl_errInvalid), ("loop.example/g01360/impl.errRange", laid_loop_example_g01360_impl_errRange), ("loop.example/g01360/impl.errLimit", laid_loop_example_g01360_impl_errLimit), ("loop.example/g01360/impl.errState", laid_loop_example_g01360_impl_errState), ("loop.example/g01360/impl.errSyntax", laid_loop_example_g01360_impl_errSyntax), ("loop.example/g01360/impl.errBudget", laid_loop_example_g01360_impl_errBudget)], narrowed := true }
def FnExactDarkAtUptoSaid : Prop := fnExactDarkAtUptoRow.holds Tryd.pinned (OpenSpec.upto fnExactDarkAtSpec)

/-- 'laws.FnExactDropInk', WHERE WHAT IT READS IS OF BULK AT MOST 1048576: true; the input reads as it did. -/
def fnExactDropInkUptoRow : OpenClaim := { program := "ytfdjlflnhhiecaadoor", sum := "634ce7db850b17cf8d1c2c2010f6242fabd47b72d21c638633f247adb80eac97", func := "loop.example/g01360/laws.FnExactDropInk", spec := "fnExactDropInk", inPlace := ["internal/reflectlite.TypeOf"], unfollowed := true, recurses := true, named := ["loop.example/g01360/impl.errState", "loop.example/g01360/impl.errLimit", "loop.example/g01360/impl.errRange", "loop.example/g01360/impl.errInvalid", "loop.example/g01360/impl.errSyntax", "loop.example/g01360/impl.errBudget"], ifaces := true, apart := false, laid := [("loop.example/g01360/impl.errInvalid", laid_loop_example_g01360_impl_errInvalid), ("loop.example/g01360/impl.errRange", laid_loop_example_g01360_impl_errRange), ("loop.example/g01360/impl.errLimit", laid_loop_example_g01360_impl_errLimit), ("loop.example/g01360/impl.errState", laid_loop_example_g01360_impl_errState), ("loop.example/g01360/impl.errSyntax", laid_loop_example_g01360_impl_errSyntax), ("loop.example/g01360/impl.errBudget", laid_loop_example_g01360_impl_errBudget)], narrowed := true }
def FnExactDropInkUptoSaid : Prop := fnExactDropInkUptoRow.holds Tryd.pinned (OpenSpec.upto fnExactDropInkSpec)

/-- 'laws.FnExactWaxCell', WHERE WHAT IT READS IS OF BULK AT MOST 1048576: true; the input reads as it did. -/
def fnExactWaxCellUptoRow : OpenClaim := { program := "ytfdjlflnhhiecaadoor", sum := "634ce7db850b17cf8d1c2c2010f6242fabd47b72d21c638633f247adb80eac97", func := "loop.example/g01360/laws.FnExactWaxCell", spec := "fnExactWaxCell", inPlace := ["internal/reflectlite.TypeOf"], unfollowed := true, recurses := true, named := ["loop.example/g01360/impl.errState", "loop.example/g01360/impl.errRange", "loop.example/g01360/impl.errInvalid", "loop.example/g01360/impl.errLimit", "loop.example/g01360/impl.errSyntax", "loop.example/g01360/impl.errBudget"], ifaces := true, apart := false, laid := [("loop.example/g01360/impl.errInvalid", laid_loop_example_g01360_impl_errInvalid), ("loop.example/g01360/impl.errRange", laid_loop_example_g01360_impl_errRange), ("loop.example/g01360/impl.errLimit", laid_loop_example_g01360_impl_errLimit), ("loop.example/g01360/impl.errState", laid_loop_example_g01360_impl_errState), ("loop.example/g01360/impl.errSyntax", laid_loop_example_g01360_impl_errSyntax), ("loop.example/g01360/impl.errBudget", laid_loop_example_g01360_impl_errBudget)], narrowed := true }
def FnExactWaxCellUptoSaid : Prop := fnExactWaxCellUptoRow.holds Tryd.pinned (OpenSpec.upto fnExactWaxCellSpec)

/-- 'laws.FnExactIsWaxed', WHERE WHAT IT READS IS OF BULK AT MOST 1048576: true; the input reads as it did. -/
def fnExactIsWaxedUptoRow : OpenClaim := { program := "ytfdjlflnhhiecaadoor", sum := "634ce7db850b17cf8d1c2c2010f6242fabd47b72d21c638633f247adb80eac97", func := "loop.example/g01360/laws.FnExactIsWaxed", spec := "fnExactIsWaxed", inPlace := ["internal/reflectlite.TypeOf"], unfollowed := true, recurses := true, named := ["loop.example/g01360/impl.errRange", "loop.example/g01360/impl.errInvalid", "loop.example/g01360/impl.errLimit", "loop.example/g01360/impl.errState", "loop.example/g01360/impl.errSyntax", "loop.example/g01360/impl.errBudget"], ifaces := true, apart := false, laid := [("loop.example/g01360/impl.errInvalid", laid_loop_example_g01360_impl_errInvalid), ("loop.example/g01360/impl.errRange", laid_loop_example_g01360_impl_errRange), ("loop.example/g01360/impl.errLimit", laid_loop_example_g01360_impl_errLimit), ("loop.example/g01360/impl.errState", laid_loop_example_g01360_impl_errState), ("loop.example/g01360/impl.errSyntax", laid_loop_example_g01360_impl_errSyntax), ("loop.example/g01360/impl.errBudget", laid_loop_example_g01360_impl_errBudget)], narrowed := true }
def FnExactIsWaxedUptoSaid : Prop := fnExactIsWaxedUptoRow.holds Tryd.pinned (OpenSpec.upto fnExactIsWaxedSpec)

/-- 'laws.FnExactWaterIn', WHERE WHAT IT READS IS OF BULK AT MOST 1048576: true; the input reads as it did. -/
def fnExactWaterInUptoRow : OpenClaim := { program := "ytfdjlflnhhiecaadoor", sum := "634ce7db850b17cf8d1c2c2010f6242fabd47b72d21c638633f247adb80eac97", func := "loop.example/g01360/laws.FnExactWaterIn", spec := "fnExactWaterIn", inPlace := ["internal/reflectlite.TypeOf"], unfollowed := true, recurses := true, named := ["loop.example/g01360/impl.errInvalid", "loop.example/g01360/impl.errRange", "loop.example/g01360/impl.errLimit", "loop.example/g01360/impl.errState", "loop.example/g01360/impl.errSyntax", "loop.example/g01360/impl.errBudget"], ifaces := true, apart := false, laid := [("loop.example/g01360/impl.errInvalid", laid_loop_example_g01360_impl_errInvalid), ("loop.example/g01360/impl.errRange", laid_loop_example_g01360_impl_errRange), ("loop.example/g01360/impl.errLimit", laid_loop_example_g01360_impl_errLimit), ("loop.example/g01360/impl.errState", laid_loop_example_g01360_impl_errState), ("loop.example/g01360/impl.errSyntax", laid_loop_example_g01360_impl_errSyntax), ("loop.example/g01360/impl.errBudget", laid_loop_example_g01360_impl_errBudget)], narrowed := true }
def FnExactWaterInUptoSaid : Prop := fnExactWaterInUptoRow.holds Tryd.pinned (OpenSpec.upto fnExactWaterInSpec)

/-- 'laws.FnExactColourAt', WHERE WHAT IT READS IS OF BULK AT MOST 1048576: true; the input reads as it did. -/
def fnExactColourAtUptoRow : OpenClaim := { program := "ytfdjlflnhhiecaadoor", sum := "634ce7db850b17cf8d1c2c2010f6242fabd47b72d21c638633f247adb80eac97", func := "loop.example/g01360/laws.FnExactColourAt", spec := "fnExactColourAt", inPlace := ["internal/reflectlite.TypeOf"], unfollowed := true, recurses := true, named := ["loop.example/g01360/impl.errRange", "loop.example/g01360/impl.errInvalid", "loop.example/g01360/impl.errLimit", "loop.example/g01360/impl.errState", "loop.example/g01360/impl.errSyntax", "loop.example/g01360/impl.errBudget"], ifaces := true, apart := false, laid := [("loop.example/g01360/impl.errInvalid", laid_loop_example_g01360_impl_errInvalid), ("loop.example/g01360/impl.errRange", laid_loop_example_g01360_impl_errRange), ("loop.example/g01360/impl.errLimit", laid_loop_example_g01360_impl_errLimit), ("loop.example/g01360/impl.errState", laid_loop_example_g01360_impl_errState), ("loop.example/g01360/impl.errSyntax", laid_loop_example_g01360_impl_errSyntax), ("loop.example/g01360/impl.errBudget", laid_loop_example_g01360_impl_errBudget)], narrowed := true }
def FnExactColourAtUptoSaid : Prop := fnExactColourAtUptoRow.holds Tryd.pinned (OpenSpec.upto fnExactColourAtSpec)

/-- 'laws.FnExactDryAll', WHERE WHAT IT READS IS OF BULK AT MOST 1048576: true; the input reads as it did. -/
def fnExactDryAllUptoRow : OpenClaim := { program := "ytfdjlflnhhiecaadoor", sum := "634ce7db850b17cf8d1c2c2010f6242fabd47b72d21c638633f247adb80eac97", func := "loop.example/g01360/laws.FnExactDryAll", spec := "fnExactDryAll", inPlace := ["internal/reflectlite.TypeOf"], unfollowed := true, recurses := true, named := ["loop.example/g01360/impl.errInvalid", "loop.example/g01360/impl.errRange", "loop.example/g01360/impl.errLimit", "loop.example/g01360/impl.errState", "loop.example/g01360/impl.errSyntax", "loop.example/g01360/impl.errBudget"], ifaces := true, apart := false, laid := [("loop.example/g01360/impl.errInvalid", laid_loop_example_g01360_impl_errInvalid), ("loop.example/g01360/impl.errRange", laid_loop_example_g01360_impl_errRange), ("loop.example/g01360/impl.errLimit", laid_loop_example_g01360_impl_errLimit), ("loop.example/g01360/impl.errState", laid_loop_example_g01360_impl_errState), ("loop.example/g01360/impl.errSyntax", laid_loop_example_g01360_impl_errSyntax), ("loop.example/g01360/impl.errBudget", laid_loop_example_g01360_impl_errBudget)], narrowed := true }
def FnExactDryAllUptoSaid : Prop := fnExactDryAllUptoRow.holds Tryd.pinned (OpenSpec.upto fnExactDryAllSpec)

/-- 'laws.FnExactCodeName', WHERE WHAT IT READS IS OF BULK AT MOST 1048576: true; the input reads as it did. -/
def fnExactCodeNameUptoRow : OpenClaim := { program := "ytfdjlflnhhiecaadoor", sum := "634ce7db850b17cf8d1c2c2010f6242fabd47b72d21c638633f247adb80eac97", func := "loop.example/g01360/laws.FnExactCodeName", spec := "fnExactCodeName", named := ["loop.example/g01360/impl.codeNames"], apart := false, laid := [("loop.example/g01360/impl.codeNames", laid_loop_example_g01360_impl_codeNames)], narrowed := true }
def FnExactCodeNameUptoSaid : Prop := fnExactCodeNameUptoRow.holds Tryd.pinned (OpenSpec.upto fnExactCodeNameSpec)

/-- 'laws.FnExactTurnSheet', WHERE WHAT IT READS IS OF BULK AT MOST 1048576: true; the input reads as it did. -/
def fnExactTurnSheetUptoRow : OpenClaim := { program := "ytfdjlflnhhiecaadoor", sum := "634ce7db850b17cf8d1c2c2010f6242fabd47b72d21c638633f247adb80eac97", func := "loop.example/g01360/laws.FnExactTurnSheet", spec := "fnExactTurnSheet", inPlace := ["internal/reflectlite.TypeOf"], unfollowed := true, recurses := true, named := ["loop.example/g01360/impl.errInvalid", "loop.example/g01360/impl.errRange", "loop.example/g01360/impl.errLimit", "loop.example/g01360/impl.errState", "loop.example/g01360/impl.errSyntax", "loop.example/g01360/impl.errBudget"], ifaces := true, apart := false, laid := [("loop.example/g01360/impl.errInvalid", laid_loop_example_g01360_impl_errInvalid), ("loop.example/g01360/impl.errRange", laid_loop_example_g01360_impl_errRange), ("loop.example/g01360/impl.errLimit", laid_loop_example_g01360_impl_errLimit), ("loop.example/g01360/impl.errState", laid_loop_example_g01360_impl_errState), ("loop.example/g01360/impl.errSyntax", laid_loop_example_g01360_impl_errSyntax), ("loop.example/g01360/impl.errBudget", laid_loop_example_g01360_impl_errBudget)], narrowed := true }
def FnExactTurnSheetUptoSaid : Prop := fnExactTurnSheetUptoRow.holds Tryd.pinned (OpenSpec.upto fnExactTurnSheetSpec)

/-- 'laws.FnExactCutSheet', WHERE WHAT IT READS IS OF BULK AT MOST 1048576: true; the input reads as it did. -/
def fnExactCutSheetUptoRow : OpenClaim := { program := "ytfdjlflnhhiecaadoor", sum := "634ce7db850b17cf8d1c2c2010f6242fabd47b72d21c638633f247adb80eac97", func := "loop.example/g01360/laws.FnExactCutSheet", spec := "fnExactCutSheet", inPlace := ["internal/reflectlite.TypeOf"], unfollowed := true, recurses := true, named := ["loop.example/g01360/impl.errRange", "loop.example/g01360/impl.errInvalid", "loop.example/g01360/impl.errLimit", "loop.example/g01360/impl.errState", "loop.example/g01360/impl.errSyntax", "loop.example/g01360/impl.errBudget"], ifaces := true, apart := false, laid := [("loop.example/g01360/impl.errInvalid", laid_loop_example_g01360_impl_errInvalid), ("loop.example/g01360/impl.errRange", laid_loop_example_g01360_impl_errRange), ("loop.example/g01360/impl.errLimit", laid_loop_example_g01360_impl_errLimit), ("loop.example/g01360/impl.errState", laid_loop_example_g01360_impl_errState), ("loop.example/g01360/impl.errSyntax", laid_loop_example_g01360_impl_errSyntax), ("loop.example/g01360/impl.errBudget", laid_loop_example_g01360_impl_errBudget)], narrowed := true }
def FnExactCutSheetUptoSaid : Prop := fnExactCutSheetUptoRow.holds Tryd.pinned (OpenSpec.upto fnExactCutSheetSpec)

end Rows
end Go.Proofs.YtfdjlflnhhiecaaDoor
