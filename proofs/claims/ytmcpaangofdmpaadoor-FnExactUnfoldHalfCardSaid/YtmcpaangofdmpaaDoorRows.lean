/-
  NARROWER THAN 'FOR EVERY INPUT', by the rows' own cells (each row's printed sentence says how): FnExactPressOnce: ifaces, laid · FnExactPressAll: ifaces, laid · FnExactPressesUntil: ifaces, laid · FnExactFoldsOf: ifaces, laid · FnExactBestFold: ifaces, laid · FnExactUnfoldHalf: ifaces, laid · FnExactBlotOnto: ifaces, laid · FnExactBlotRounds: ifaces, laid · FnExactEdgeCells: ifaces, laid.
  DERIVED. THE GIVEN ROWS OF THIS SEAT. 9 by the template 'for every input the law returns true; each argument reads behind the call as it read before'; 0 by the template 'total and deterministic' (their statements: YtmcpaangofdmpaaDoorTotals.lean).
  GIVEN WITH THE SEED: the statements are not yours to turn. If you find one false, say at which input.
  Laid BY PROGRAM, IN A SANDBOX (cutbox-rows.mjs): the forced cells as the released guide's own fill.sh prints them over the translation 84a6a50c7371c2d2… (all of the seat's roots in one cut). By AI agents, Wed Nov 11 2026. No macro, syntax, notation, axiom, sorry.
-/
import Derived.Test.YtmcpaangofdmpaaDoorChecked
import GoSem.Claim
import GoSem.ClaimJoined
import GoSem.ClaimMapViews
import Derived.JoinedTies
import Derived.KernelRfl
namespace Go.Proofs.YtmcpaangofdmpaaDoor
/- THE CELL 'sum', in the pinned program and in every row, IS THE sha256 OF THE DUMP (.gsa) THAT YtmcpaangofdmpaaDoorProg.lean LOADS. Nothing in Lean hashes anything: it is a label: what it is worth is what the hold of that sum in a sandbox is worth. -/
noncomputable def Tryd.pinned : Pinned := { name := "ytmcpaangofdmpaadoor", sum := "84a6a50c7371c2d251ae389e683f1bd263d5410e18ebcbf82affc3e002deb9a0", checked := Tryd.checked }
namespace Rows
def none {H : Type} : Left H := { results := [], args := [] }

/- WHAT THE LISTED PACKAGE-LEVEL VARIABLES READ AS WHEN THE CALL BEGINS. Each datum BY PROGRAM (the guide's laid-datum.mjs) off the statement by which the dump's own 'gosem.cut.vars' lays the variable. In a bare row this is a premise. The card (YtmcpaangofdmpaaDoorCards.lean) ties it to the program's text. -/
def laid_loop_example_g01360_impl_errInvalid {H : Type} : DataW H := .iface "*errors.errorString" (.ptr (.agg [.lit (.string [105, 110, 118, 97, 108, 105, 100])]))
def laid_loop_example_g01360_impl_errRange {H : Type} : DataW H := .iface "*errors.errorString" (.ptr (.agg [.lit (.string [114, 97, 110, 103, 101])]))
def laid_loop_example_g01360_impl_errLimit {H : Type} : DataW H := .iface "*errors.errorString" (.ptr (.agg [.lit (.string [108, 105, 109, 105, 116])]))
def laid_loop_example_g01360_impl_errState {H : Type} : DataW H := .iface "*errors.errorString" (.ptr (.agg [.lit (.string [115, 116, 97, 116, 101])]))
def laid_loop_example_g01360_impl_errSyntax {H : Type} : DataW H := .iface "*errors.errorString" (.ptr (.agg [.lit (.string [115, 121, 110, 116, 97, 120])]))
def laid_loop_example_g01360_impl_errBudget {H : Type} : DataW H := .iface "*errors.errorString" (.ptr (.agg [.lit (.string [98, 117, 100, 103, 101, 116])]))

/-- 'laws.FnExactPressOnce': WHATEVER THE INPUT: true; the input reads as it did. -/
def fnExactPressOnceSpec : ChangeSpec := { name := "fnExactPressOnce", vars := ["loop.example/g01360/impl.errLimit", "loop.example/g01360/impl.errInvalid", "loop.example/g01360/impl.errRange", "loop.example/g01360/impl.errState", "loop.example/g01360/impl.errSyntax", "loop.example/g01360/impl.errBudget"], fn := fun _ => fun
  | [d1, d2, g1, g2, g3, g4, g5, g6] => { results := [.lit (.bool true)], args := [d1, d2], vars := [g1, g2, g3, g4, g5, g6] }
  | _ => none }
def fnExactPressOnceRow : OpenClaim := { program := "ytmcpaangofdmpaadoor", sum := "84a6a50c7371c2d251ae389e683f1bd263d5410e18ebcbf82affc3e002deb9a0", func := "loop.example/g01360/laws.FnExactPressOnce", spec := "fnExactPressOnce", inPlace := ["internal/reflectlite.TypeOf"], unfollowed := true, recurses := true, named := ["loop.example/g01360/impl.errLimit", "loop.example/g01360/impl.errInvalid", "loop.example/g01360/impl.errRange", "loop.example/g01360/impl.errState", "loop.example/g01360/impl.errSyntax", "loop.example/g01360/impl.errBudget"], ifaces := true, plainKeys := false, apart := false, laid := [("loop.example/g01360/impl.errInvalid", laid_loop_example_g01360_impl_errInvalid), ("loop.example/g01360/impl.errRange", laid_loop_example_g01360_impl_errRange), ("loop.example/g01360/impl.errLimit", laid_loop_example_g01360_impl_errLimit), ("loop.example/g01360/impl.errState", laid_loop_example_g01360_impl_errState), ("loop.example/g01360/impl.errSyntax", laid_loop_example_g01360_impl_errSyntax), ("loop.example/g01360/impl.errBudget", laid_loop_example_g01360_impl_errBudget)] }
def FnExactPressOnceSaid : Prop := fnExactPressOnceRow.holds Tryd.pinned (OpenSpec.ofChange fnExactPressOnceSpec)

/-- ITS FALSE NEIGHBOUR: 'it returns false'. Refute it at one input. -/
def fnExactPressOnceWrong : ChangeSpec := { name := "fnExactPressOnce", vars := ["loop.example/g01360/impl.errLimit", "loop.example/g01360/impl.errInvalid", "loop.example/g01360/impl.errRange", "loop.example/g01360/impl.errState", "loop.example/g01360/impl.errSyntax", "loop.example/g01360/impl.errBudget"], fn := fun _ => fun
  | [d1, d2, g1, g2, g3, g4, g5, g6] => { results := [.lit (.bool false)], args := [d1, d2], vars := [g1, g2, g3, g4, g5, g6] }
  | _ => none }
def FnExactPressOnceWrongFalsely : Prop := fnExactPressOnceRow.holds Tryd.pinned (OpenSpec.ofChange fnExactPressOnceWrong)

/-- 'laws.FnExactPressAll': WHATEVER THE INPUT: true; the input reads as it did. -/
def fnExactPressAllSpec : ChangeSpec := { name := "fnExactPressAll", vars := ["loop.example/g01360/impl.errLimit", "loop.example/g01360/impl.errInvalid", "loop.example/g01360/impl.errRange", "loop.example/g01360/impl.errState", "loop.example/g01360/impl.errSyntax", "loop.example/g01360/impl.errBudget"], fn := fun _ => fun
  | [d1, d2, g1, g2, g3, g4, g5, g6] => { results := [.lit (.bool true)], args := [d1, d2], vars := [g1, g2, g3, g4, g5, g6] }
  | _ => none }
def fnExactPressAllRow : OpenClaim := { program := "ytmcpaangofdmpaadoor", sum := "84a6a50c7371c2d251ae389e683f1bd263d5410e18ebcbf82affc3e002deb9a0", func := "loop.example/g01360/laws.FnExactPressAll", spec := "fnExactPressAll", inPlace := ["internal/reflectlite.TypeOf"], unfollowed := true, recurses := true, named := ["loop.example/g01360/impl.errLimit", "loop.example/g01360/impl.errInvalid", "loop.example/g01360/impl.errRange", "loop.example/g01360/impl.errState", "loop.example/g01360/impl.errSyntax", "loop.example/g01360/impl.errBudget"], ifaces := true, plainKeys := false, apart := false, laid := [("loop.example/g01360/impl.errInvalid", laid_loop_example_g01360_impl_errInvalid), ("loop.example/g01360/impl.errRange", laid_loop_example_g01360_impl_errRange), ("loop.example/g01360/impl.errLimit", laid_loop_example_g01360_impl_errLimit), ("loop.example/g01360/impl.errState", laid_loop_example_g01360_impl_errState), ("loop.example/g01360/impl.errSyntax", laid_loop_example_g01360_impl_errSyntax), ("loop.example/g01360/impl.errBudget", laid_loop_example_g01360_impl_errBudget)] }
def FnExactPressAllSaid : Prop := fnExactPressAllRow.holds Tryd.pinned (OpenSpec.ofChange fnExactPressAllSpec)

/-- ITS FALSE NEIGHBOUR: 'it returns false'. Refute it at one input. -/
def fnExactPressAllWrong : ChangeSpec := { name := "fnExactPressAll", vars := ["loop.example/g01360/impl.errLimit", "loop.example/g01360/impl.errInvalid", "loop.example/g01360/impl.errRange", "loop.example/g01360/impl.errState", "loop.example/g01360/impl.errSyntax", "loop.example/g01360/impl.errBudget"], fn := fun _ => fun
  | [d1, d2, g1, g2, g3, g4, g5, g6] => { results := [.lit (.bool false)], args := [d1, d2], vars := [g1, g2, g3, g4, g5, g6] }
  | _ => none }
def FnExactPressAllWrongFalsely : Prop := fnExactPressAllRow.holds Tryd.pinned (OpenSpec.ofChange fnExactPressAllWrong)

/-- 'laws.FnExactPressesUntil': WHATEVER THE INPUT: true; the input reads as it did. -/
def fnExactPressesUntilSpec : ChangeSpec := { name := "fnExactPressesUntil", vars := ["loop.example/g01360/impl.errRange", "loop.example/g01360/impl.errInvalid", "loop.example/g01360/impl.errLimit", "loop.example/g01360/impl.errState", "loop.example/g01360/impl.errSyntax", "loop.example/g01360/impl.errBudget"], fn := fun _ => fun
  | [d1, d2, d3, g1, g2, g3, g4, g5, g6] => { results := [.lit (.bool true)], args := [d1, d2, d3], vars := [g1, g2, g3, g4, g5, g6] }
  | _ => none }
def fnExactPressesUntilRow : OpenClaim := { program := "ytmcpaangofdmpaadoor", sum := "84a6a50c7371c2d251ae389e683f1bd263d5410e18ebcbf82affc3e002deb9a0", func := "loop.example/g01360/laws.FnExactPressesUntil", spec := "fnExactPressesUntil", inPlace := ["internal/reflectlite.TypeOf"], unfollowed := true, recurses := true, named := ["loop.example/g01360/impl.errRange", "loop.example/g01360/impl.errInvalid", "loop.example/g01360/impl.errLimit", "loop.example/g01360/impl.errState", "loop.example/g01360/impl.errSyntax", "loop.example/g01360/impl.errBudget"], ifaces := true, plainKeys := false, apart := false, laid := [("loop.example/g01360/impl.errInvalid", laid_loop_example_g01360_impl_errInvalid), ("loop.example/g01360/impl.errRange", laid_loop_example_g01360_impl_errRange), ("loop.example/g01360/impl.errLimit", laid_loop_example_g01360_impl_errLimit), ("loop.example/g01360/impl.errState", laid_loop_example_g01360_impl_errState), ("loop.example/g01360/impl.errSyntax", laid_loop_example_g01360_impl_errSyntax), ("loop.example/g01360/impl.errBudget", laid_loop_example_g01360_impl_errBudget)] }
def FnExactPressesUntilSaid : Prop := fnExactPressesUntilRow.holds Tryd.pinned (OpenSpec.ofChange fnExactPressesUntilSpec)

/-- ITS FALSE NEIGHBOUR: 'it returns false'. Refute it at one input. -/
def fnExactPressesUntilWrong : ChangeSpec := { name := "fnExactPressesUntil", vars := ["loop.example/g01360/impl.errRange", "loop.example/g01360/impl.errInvalid", "loop.example/g01360/impl.errLimit", "loop.example/g01360/impl.errState", "loop.example/g01360/impl.errSyntax", "loop.example/g01360/impl.errBudget"], fn := fun _ => fun
  | [d1, d2, d3, g1, g2, g3, g4, g5, g6] => { results := [.lit (.bool false)], args := [d1, d2, d3], vars := [g1, g2, g3, g4, g5, g6] }
  | _ => none }
def FnExactPressesUntilWrongFalsely : Prop := fnExactPressesUntilRow.holds Tryd.pinned (OpenSpec.ofChange fnExactPressesUntilWrong)

/-- 'laws.FnExactFoldsOf': WHATEVER THE INPUT: true; the input reads as it did. -/
def fnExactFoldsOfSpec : ChangeSpec := { name := "fnExactFoldsOf", vars := ["loop.example/g01360/impl.errInvalid", "loop.example/g01360/impl.errRange", "loop.example/g01360/impl.errLimit", "loop.example/g01360/impl.errState", "loop.example/g01360/impl.errSyntax", "loop.example/g01360/impl.errBudget"], fn := fun _ => fun
  | [d, g1, g2, g3, g4, g5, g6] => { results := [.lit (.bool true)], args := [d], vars := [g1, g2, g3, g4, g5, g6] }
  | _ => none }
def fnExactFoldsOfRow : OpenClaim := { program := "ytmcpaangofdmpaadoor", sum := "84a6a50c7371c2d251ae389e683f1bd263d5410e18ebcbf82affc3e002deb9a0", func := "loop.example/g01360/laws.FnExactFoldsOf", spec := "fnExactFoldsOf", inPlace := ["internal/reflectlite.TypeOf"], unfollowed := true, recurses := true, named := ["loop.example/g01360/impl.errInvalid", "loop.example/g01360/impl.errRange", "loop.example/g01360/impl.errLimit", "loop.example/g01360/impl.errState", "loop.example/g01360/impl.errSyntax", "loop.example/g01360/impl.errBudget"], ifaces := true, plainKeys := false, apart := false, laid := [("loop.example/g01360/impl.errInvalid", laid_loop_example_g01360_impl_errInvalid), ("loop.example/g01360/impl.errRange", laid_loop_example_g01360_impl_errRange), ("loop.example/g01360/impl.errLimit", laid_loop_example_g01360_impl_errLimit), ("loop.example/g01360/impl.errState", laid_loop_example_g01360_impl_errState), ("loop.example/g01360/impl.errSyntax", laid_loop_example_g01360_impl_errSyntax), ("loop.example/g01360/impl.errBudget", laid_loop_example_g01360_impl_errBudget)] }
def FnExactFoldsOfSaid : Prop := fnExactFoldsOfRow.holds Tryd.pinned (OpenSpec.ofChange fnExactFoldsOfSpec)

/-- ITS FALSE NEIGHBOUR: 'it returns false'. Refute it at one input. -/
def fnExactFoldsOfWrong : ChangeSpec := { name := "fnExactFoldsOf", vars := ["loop.example/g01360/impl.errInvalid", "loop.example/g01360/impl.errRange", "loop.example/g01360/impl.errLimit", "loop.example/g01360/impl.errState", "loop.example/g01360/impl.errSyntax", "loop.example/g01360/impl.errBudget"], fn := fun _ => fun
  | [d, g1, g2, g3, g4, g5, g6] => { results := [.lit (.bool false)], args := [d], vars := [g1, g2, g3, g4, g5, g6] }
  | _ => none }
def FnExactFoldsOfWrongFalsely : Prop := fnExactFoldsOfRow.holds Tryd.pinned (OpenSpec.ofChange fnExactFoldsOfWrong)

/-- 'laws.FnExactBestFold': WHATEVER THE INPUT: true; the input reads as it did. -/
def fnExactBestFoldSpec : ChangeSpec := { name := "fnExactBestFold", vars := ["loop.example/g01360/impl.errInvalid", "loop.example/g01360/impl.errRange", "loop.example/g01360/impl.errLimit", "loop.example/g01360/impl.errState", "loop.example/g01360/impl.errSyntax", "loop.example/g01360/impl.errBudget"], fn := fun _ => fun
  | [d, g1, g2, g3, g4, g5, g6] => { results := [.lit (.bool true)], args := [d], vars := [g1, g2, g3, g4, g5, g6] }
  | _ => none }
def fnExactBestFoldRow : OpenClaim := { program := "ytmcpaangofdmpaadoor", sum := "84a6a50c7371c2d251ae389e683f1bd263d5410e18ebcbf82affc3e002deb9a0", func := "loop.example/g01360/laws.FnExactBestFold", spec := "fnExactBestFold", inPlace := ["internal/reflectlite.TypeOf"], unfollowed := true, recurses := true, named := ["loop.example/g01360/impl.errInvalid", "loop.example/g01360/impl.errRange", "loop.example/g01360/impl.errLimit", "loop.example/g01360/impl.errState", "loop.example/g01360/impl.errSyntax", "loop.example/g01360/impl.errBudget"], ifaces := true, plainKeys := false, apart := false, laid := [("loop.example/g01360/impl.errInvalid", laid_loop_example_g01360_impl_errInvalid), ("loop.example/g01360/impl.errRange", laid_loop_example_g01360_impl_errRange), ("loop.example/g01360/impl.errLimit", laid_loop_example_g01360_impl_errLimit), ("loop.example/g01360/impl.errState", laid_loop_example_g01360_impl_errState), ("loop.example/g01360/impl.errSyntax", laid_loop_example_g01360_impl_errSyntax), ("loop.example/g01360/impl.errBudget", laid_loop_example_g01360_impl_errBudget)] }
def FnExactBestFoldSaid : Prop := fnExactBestFoldRow.holds Tryd.pinned (OpenSpec.ofChange fnExactBestFoldSpec)

/-- ITS FALSE NEIGHBOUR: 'it returns false'. Refute it at one input. -/
def fnExactBestFoldWrong : ChangeSpec := { name := "fnExactBestFold", vars := ["loop.example/g01360/impl.errInvalid", "loop.example/g01360/impl.errRange", "loop.example/g01360/impl.errLimit", "loop.example/g01360/impl.errState", "loop.example/g01360/impl.errSyntax", "loop.example/g01360/impl.errBudget"], fn := fun _ => fun
  | [d, g1, g2, g3, g4, g5, g6] => { results := [.lit (.bool false)], args := [d], vars := [g1, g2, g3, g4, g5, g6] }
  | _ => none }
def FnExactBestFoldWrongFalsely : Prop := fnExactBestFoldRow.holds Tryd.pinned (OpenSpec.ofChange fnExactBestFoldWrong)

/-- 'laws.FnExactUnfoldHalf': WHATEVER THE INPUT: true; the input reads as it did. -/
def fnExactUnfoldHalfSpec : ChangeSpec := { name := "fnExactUnfoldHalf", vars := ["loop.example/g01360/impl.errInvalid", "loop.example/g01360/impl.errRange", "loop.example/g01360/impl.errLimit", "loop.example/g01360/impl.errState", "loop.example/g01360/impl.errSyntax", "loop.example/g01360/impl.errBudget"], fn := fun _ => fun
  | [d1, d2, g1, g2, g3, g4, g5, g6] => { results := [.lit (.bool true)], args := [d1, d2], vars := [g1, g2, g3, g4, g5, g6] }
  | _ => none }
def fnExactUnfoldHalfRow : OpenClaim := { program := "ytmcpaangofdmpaadoor", sum := "84a6a50c7371c2d251ae389e683f1bd263d5410e18ebcbf82affc3e002deb9a0", func := "loop.example/g01360/laws.FnExactUnfoldHalf", spec := "fnExactUnfoldHalf", inPlace := ["internal/reflectlite.TypeOf"], unfollowed := true, recurses := true, named := ["loop.example/g01360/impl.errInvalid", "loop.example/g01360/impl.errRange", "loop.example/g01360/impl.errLimit", "loop.example/g01360/impl.errState", "loop.example/g01360/impl.errSyntax", "loop.example/g01360/impl.errBudget"], ifaces := true, plainKeys := false, apart := false, laid := [("loop.example/g01360/impl.errInvalid", laid_loop_example_g01360_impl_errInvalid), ("loop.example/g01360/impl.errRange", laid_loop_example_g01360_impl_errRange), ("loop.example/g01360/impl.errLimit", laid_loop_example_g01360_impl_errLimit), ("loop.example/g01360/impl.errState", laid_loop_example_g01360_impl_errState), ("loop.example/g01360/impl.errSyntax", laid_loop_example_g01360_impl_errSyntax), ("loop.example/g01360/impl.errBudget", laid_loop_example_g01360_impl_errBudget)] }
def FnExactUnfoldHalfSaid : Prop := fnExactUnfoldHalfRow.holds Tryd.pinned (OpenSpec.ofChange fnExactUnfoldHalfSpec)

/-- ITS FALSE NEIGHBOUR: 'it returns false'. Refute it at one input. -/
def fnExactUnfoldHalfWrong : ChangeSpec := { name := "fnExactUnfoldHalf", vars := ["loop.example/g01360/impl.errInvalid", "loop.example/g01360/impl.errRange", "loop.example/g01360/impl.errLimit", "loop.example/g01360/impl.errState", "loop.example/g01360/impl.errSyntax", "loop.example/g01360/impl.errBudget"], fn := fun _ => fun
  | [d1, d2, g1, g2, g3, g4, g5, g6] => { results := [.lit (.bool false)], args := [d1, d2], vars := [g1, g2, g3, g4, g5, g6] }
  | _ => none }
def FnExactUnfoldHalfWrongFalsely : Prop := fnExactUnfoldHalfRow.holds Tryd.pinned (OpenSpec.ofChange fnExactUnfoldHalfWrong)

/-- 'laws.FnExactBlotOnto': WHATEVER THE INPUT: true; the input reads as it did. -/
def fnExactBlotOntoSpec : ChangeSpec := { name := "fnExactBlotOnto", vars := ["loop.example/g01360/impl.errInvalid", "loop.example/g01360/impl.errRange", "loop.example/g01360/impl.errState", "loop.example/g01360/impl.errLimit", "loop.example/g01360/impl.errSyntax", "loop.example/g01360/impl.errBudget"], fn := fun _ => fun
  | [d1, d2, d3, g1, g2, g3, g4, g5, g6] => { results := [.lit (.bool true)], args := [d1, d2, d3], vars := [g1, g2, g3, g4, g5, g6] }
  | _ => none }
def fnExactBlotOntoRow : OpenClaim := { program := "ytmcpaangofdmpaadoor", sum := "84a6a50c7371c2d251ae389e683f1bd263d5410e18ebcbf82affc3e002deb9a0", func := "loop.example/g01360/laws.FnExactBlotOnto", spec := "fnExactBlotOnto", inPlace := ["internal/reflectlite.TypeOf"], unfollowed := true, recurses := true, named := ["loop.example/g01360/impl.errInvalid", "loop.example/g01360/impl.errRange", "loop.example/g01360/impl.errState", "loop.example/g01360/impl.errLimit", "loop.example/g01360/impl.errSyntax", "loop.example/g01360/impl.errBudget"], ifaces := true, plainKeys := false, apart := false, laid := [("loop.example/g01360/impl.errInvalid", laid_loop_example_g01360_impl_errInvalid), ("loop.example/g01360/impl.errRange", laid_loop_example_g01360_impl_errRange), ("loop.example/g01360/impl.errLimit", laid_loop_example_g01360_impl_errLimit), ("loop.example/g01360/impl.errState", laid_loop_example_g01360_impl_errState), ("loop.example/g01360/impl.errSyntax", laid_loop_example_g01360_impl_errSyntax), ("loop.example/g01360/impl.errBudget", laid_loop_example_g01360_impl_errBudget)] }
def FnExactBlotOntoSaid : Prop := fnExactBlotOntoRow.holds Tryd.pinned (OpenSpec.ofChange fnExactBlotOntoSpec)

/-- ITS FALSE NEIGHBOUR: 'it returns false'. Refute it at one input. -/
def fnExactBlotOntoWrong : ChangeSpec := { name := "fnExactBlotOnto", vars := ["loop.example/g01360/impl.errInvalid", "loop.example/g01360/impl.errRange", "loop.example/g01360/impl.errState", "loop.example/g01360/impl.errLimit", "loop.example/g01360/impl.errSyntax", "loop.example/g01360/impl.errBudget"], fn := fun _ => fun
  | [d1, d2, d3, g1, g2, g3, g4, g5, g6] => { results := [.lit (.bool false)], args := [d1, d2, d3], vars := [g1, g2, g3, g4, g5, g6] }
  | _ => none }
def FnExactBlotOntoWrongFalsely : Prop := fnExactBlotOntoRow.holds Tryd.pinned (OpenSpec.ofChange fnExactBlotOntoWrong)

/-- 'laws.FnExactBlotRounds': WHATEVER THE INPUT: true; the input reads as it did. -/
def fnExactBlotRoundsSpec : ChangeSpec := { name := "fnExactBlotRounds", vars := ["loop.example/g01360/impl.errInvalid", "loop.example/g01360/impl.errRange", "loop.example/g01360/impl.errState", "loop.example/g01360/impl.errLimit", "loop.example/g01360/impl.errSyntax", "loop.example/g01360/impl.errBudget"], fn := fun _ => fun
  | [d1, d2, d3, d4, g1, g2, g3, g4, g5, g6] => { results := [.lit (.bool true)], args := [d1, d2, d3, d4], vars := [g1, g2, g3, g4, g5, g6] }
  | _ => none }
def fnExactBlotRoundsRow : OpenClaim := { program := "ytmcpaangofdmpaadoor", sum := "84a6a50c7371c2d251ae389e683f1bd263d5410e18ebcbf82affc3e002deb9a0", func := "loop.example/g01360/laws.FnExactBlotRounds", spec := "fnExactBlotRounds", inPlace := ["internal/reflectlite.TypeOf"], unfollowed := true, recurses := true, named := ["loop.example/g01360/impl.errInvalid", "loop.example/g01360/impl.errRange", "loop.example/g01360/impl.errState", "loop.example/g01360/impl.errLimit", "loop.example/g01360/impl.errSyntax", "loop.example/g01360/impl.errBudget"], ifaces := true, plainKeys := false, apart := false, laid := [("loop.example/g01360/impl.errInvalid", laid_loop_example_g01360_impl_errInvalid), ("loop.example/g01360/impl.errRange", laid_loop_example_g01360_impl_errRange), ("loop.example/g01360/impl.errLimit", laid_loop_example_g01360_impl_errLimit), ("loop.example/g01360/impl.errState", laid_loop_example_g01360_impl_errState), ("loop.example/g01360/impl.errSyntax", laid_loop_example_g01360_impl_errSyntax), ("loop.example/g01360/impl.errBudget", laid_loop_example_g01360_impl_errBudget)] }
def FnExactBlotRoundsSaid : Prop := fnExactBlotRoundsRow.holds Tryd.pinned (OpenSpec.ofChange fnExactBlotRoundsSpec)

/-- ITS FALSE NEIGHBOUR: 'it returns false'. Refute it at one input. -/
def fnExactBlotRoundsWrong : ChangeSpec := { name := "fnExactBlotRounds", vars := ["loop.example/g01360/impl.errInvalid", "loop.example/g01360/impl.errRange", "loop.example/g01360/impl.errState", "loop.example/g01360/impl.errLimit", "loop.example/g01360/impl.errSyntax", "loop.example/g01360/impl.errBudget"], fn := fun _ => fun
  | [d1, d2, d3, d4, g1, g2, g3, g4, g5, g6] => { results := [.lit (.bool false)], args := [d1, d2, d3, d4], vars := [g1, g2, g3, g4, g5, g6] }
  | _ => none }
def FnExactBlotRoundsWrongFalsely : Prop := fnExactBlotRoundsRow.holds Tryd.pinned (OpenSpec.ofChange fnExactBlotRoundsWrong)

/-- 'laws.FnExactEdgeCells': WHATEVER THE INPUT: true; the input reads as it did. -/
def fnExactEdgeCellsSpec : ChangeSpec := { name := "fnExactEdgeCells", vars := ["loop.example/g01360/impl.errInvalid", "loop.example/g01360/impl.errRange", "loop.example/g01360/impl.errLimit", "loop.example/g01360/impl.errState", "loop.example/g01360/impl.errSyntax", "loop.example/g01360/impl.errBudget"], fn := fun _ => fun
  | [d, g1, g2, g3, g4, g5, g6] => { results := [.lit (.bool true)], args := [d], vars := [g1, g2, g3, g4, g5, g6] }
  | _ => none }
def fnExactEdgeCellsRow : OpenClaim := { program := "ytmcpaangofdmpaadoor", sum := "84a6a50c7371c2d251ae389e683f1bd263d5410e18ebcbf82affc3e002deb9a0", func := "loop.example/g01360/laws.FnExactEdgeCells", spec := "fnExactEdgeCells", inPlace := ["internal/reflectlite.TypeOf"], unfollowed := true, recurses := true, named := ["loop.example/g01360/impl.errInvalid", "loop.example/g01360/impl.errRange", "loop.example/g01360/impl.errLimit", "loop.example/g01360/impl.errState", "loop.example/g01360/impl.errSyntax", "loop.example/g01360/impl.errBudget"], ifaces := true, plainKeys := false, apart := false, laid := [("loop.example/g01360/impl.errInvalid", laid_loop_example_g01360_impl_errInvalid), ("loop.example/g01360/impl.errRange", laid_loop_example_g01360_impl_errRange), ("loop.example/g01360/impl.errLimit", laid_loop_example_g01360_impl_errLimit), ("loop.example/g01360/impl.errState", laid_loop_example_g01360_impl_errState), ("loop.example/g01360/impl.errSyntax", laid_loop_example_g01360_impl_errSyntax), ("loop.example/g01360/impl.errBudget", laid_loop_example_g01360_impl_errBudget)] }
def FnExactEdgeCellsSaid : Prop := fnExactEdgeCellsRow.holds Tryd.pinned (OpenSpec.ofChange fnExactEdgeCellsSpec)

/-- ITS FALSE NEIGHBOUR: 'it returns false'. Refute it at one input. -/
def fnExactEdgeCellsWrong : ChangeSpec := { name := "fnExactEdgeCells", vars := ["loop.example/g01360/impl.errInvalid", "loop.example/g01360/impl.errRange", "loop.example/g01360/impl.errLimit", "loop.example/g01360/impl.errState", "loop.example/g01360/impl.errSyntax", "loop.example/g01360/impl.errBudget"], fn := fun _ => fun
  | [d, g1, g2, g3, g4, g5, g6] => { results := [.lit (.bool false)], args := [d], vars := [g1, g2, g3, g4, g5, g6] }
  | _ => none }
def FnExactEdgeCellsWrongFalsely : Prop := fnExactEdgeCellsRow.holds Tryd.pinned (OpenSpec.ofChange fnExactEdgeCellsWrong)

/- THE SECOND FORM. 'bulk': how many values and letters a reading holds, each counted each time it is reached (what is shared counts as often as it is met; a slice's spare places count too). A statement '..UptoSaid' is the law's where the arguments, and the package variables that the reading takes, are together of bulk at most 1048576: NARROWER than '..Said'. Prove '..Said' where nothing that the law and all that it calls make is longer than what came in: it says more and counts as full. Else prove '..UptoSaid'. A law counts once. -/
mutual
def uptoBulk {H : Type} : DataW H → Nat
  | .lit (.string bytes) => bytes.length + 1
  | .lit _ => 1
  | .nil => 1
  | .ptr d => uptoBulk d + 1
  | .slice elems spare => uptoBulkAll elems + uptoBulkAll spare + 1
  | .agg parts => uptoBulkAll parts + 1
  | .iface _ d => uptoBulk d + 1
  | .map entries => uptoBulkEntries entries + 1
  | .held _ => 1
def uptoBulkAll {H : Type} : List (DataW H) → Nat
  | [] => 0
  | d :: r => uptoBulk d + uptoBulkAll r
def uptoBulkEntries {H : Type} : List (Lit × DataW H) → Nat
  | [] => 0
  | x :: r => uptoBulkEntry x + uptoBulkEntries r
def uptoBulkEntry {H : Type} : Lit × DataW H → Nat
  | (.string bytes, d) => bytes.length + uptoBulk d + 1
  | (_, d) => uptoBulk d + 1
 end
def uptoSmall : (H : Type) → List (DataW H) → Bool := fun _ ds => decide (uptoBulkAll ds ≤ 1048576)
def OpenSpec.upto (s : _root_.Go.ChangeSpec) : _root_.Go.OpenSpec := { _root_.Go.OpenSpec.ofChange s with cond := some uptoSmall }

/-- 'laws.FnExactPressOnce', WHERE WHAT IT READS IS OF BULK AT MOST 1048576: true; the input reads as it did. -/
def fnExactPressOnceUptoRow : OpenClaim := { program := "ytmcpaangofdmpaadoor", sum := "84a6a50c7371c2d251ae389e683f1bd263d5410e18ebcbf82affc3e002deb9a0", func := "loop.example/g01360/laws.FnExactPressOnce", spec := "fnExactPressOnce", inPlace := ["internal/reflectlite.TypeOf"], unfollowed := true, recurses := true, named := ["loop.example/g01360/impl.errLimit", "loop.example/g01360/impl.errInvalid", "loop.example/g01360/impl.errRange", "loop.example/g01360/impl.errState", "loop.example/g01360/impl.errSyntax", "loop.example/g01360/impl.errBudget"], ifaces := true, plainKeys := false, apart := false, laid := [("loop.example/g01360/impl.errInvalid", laid_loop_example_g01360_impl_errInvalid), ("loop.example/g01360/impl.errRange", laid_loop_example_g01360_impl_errRange), ("loop.example/g01360/impl.errLimit", laid_loop_example_g01360_impl_errLimit), ("loop.example/g01360/impl.errState", laid_loop_example_g01360_impl_errState), ("loop.example/g01360/impl.errSyntax", laid_loop_example_g01360_impl_errSyntax), ("loop.example/g01360/impl.errBudget", laid_loop_example_g01360_impl_errBudget)], narrowed := true }
def FnExactPressOnceUptoSaid : Prop := fnExactPressOnceUptoRow.holds Tryd.pinned (OpenSpec.upto fnExactPressOnceSpec)

/-- 'laws.FnExactPressAll', WHERE WHAT IT READS IS OF BULK AT MOST 1048576: true; the input reads as it did. -/
def fnExactPressAllUptoRow : OpenClaim := { program := "ytmcpaangofdmpaadoor", sum := "84a6a50c7371c2d251ae389e683f1bd263d5410e18ebcbf82affc3e002deb9a0", func := "loop.example/g01360/laws.FnExactPressAll", spec := "fnExactPressAll", inPlace := ["internal/reflectlite.TypeOf"], unfollowed := true, recurses := true, named := ["loop.example/g01360/impl.errLimit", "loop.example/g01360/impl.errInvalid", "loop.example/g01360/impl.errRange", "loop.example/g01360/impl.errState", "loop.example/g01360/impl.errSyntax", "loop.example/g01360/impl.errBudget"], ifaces := true, plainKeys := false, apart := false, laid := [("loop.example/g01360/impl.errInvalid", laid_loop_example_g01360_impl_errInvalid), ("loop.example/g01360/impl.errRange", laid_loop_example_g01360_impl_errRange), ("loop.example/g01360/impl.errLimit", laid_loop_example_g01360_impl_errLimit), ("loop.example/g01360/impl.errState", laid_loop_example_g01360_impl_errState), ("loop.example/g01360/impl.errSyntax", laid_loop_example_g01360_impl_errSyntax), ("loop.example/g01360/impl.errBudget", laid_loop_example_g01360_impl_errBudget)], narrowed := true }
def FnExactPressAllUptoSaid : Prop := fnExactPressAllUptoRow.holds Tryd.pinned (OpenSpec.upto fnExactPressAllSpec)

/-- 'laws.FnExactPressesUntil', WHERE WHAT IT READS IS OF BULK AT MOST 1048576: true; the input reads as it did. -/
def fnExactPressesUntilUptoRow : OpenClaim := { program := "ytmcpaangofdmpaadoor", sum := "84a6a50c7371c2d251ae389e683f1bd263d5410e18ebcbf82affc3e002deb9a0", func := "loop.example/g01360/laws.FnExactPressesUntil", spec := "fnExactPressesUntil", inPlace := ["internal/reflectlite.TypeOf"], unfollowed := true, recurses := true, named := ["loop.example/g01360/impl.errRange", "loop.example/g01360/impl.errInvalid", "loop.example/g01360/impl.errLimit", "loop.example/g01360/impl.errState", "loop.example/g01360/impl.errSyntax", "loop.example/g01360/impl.errBudget"], ifaces := true, plainKeys := false, apart := false, laid := [("loop.example/g01360/impl.errInvalid", laid_loop_example_g01360_impl_errInvalid), ("loop.example/g01360/impl.errRange", laid_loop_example_g01360_impl_errRange), ("loop.example/g01360/impl.errLimit", laid_loop_example_g01360_impl_errLimit), ("loop.example/g01360/impl.errState", laid_loop_example_g01360_impl_errState), ("loop.example/g01360/impl.errSyntax", laid_loop_example_g01360_impl_errSyntax), ("loop.example/g01360/impl.errBudget", laid_loop_example_g01360_impl_errBudget)], narrowed := true }
def FnExactPressesUntilUptoSaid : Prop := fnExactPressesUntilUptoRow.holds Tryd.pinned (OpenSpec.upto fnExactPressesUntilSpec)

/-- 'laws.FnExactFoldsOf', WHERE WHAT IT READS IS OF BULK AT MOST 1048576: true; the input reads as it did. -/
def fnExactFoldsOfUptoRow : OpenClaim := { program := "ytmcpaangofdmpaadoor", sum := "84a6a50c7371c2d251ae389e683f1bd263d5410e18ebcbf82affc3e002deb9a0", func := "loop.example/g01360/laws.FnExactFoldsOf", spec := "fnExactFoldsOf", inPlace := ["internal/reflectlite.TypeOf"], unfollowed := true, recurses := true, named := ["loop.example/g01360/impl.errInvalid", "loop.example/g01360/impl.errRange", "loop.example/g01360/impl.errLimit", "loop.example/g01360/impl.errState", "loop.example/g01360/impl.errSyntax", "loop.example/g01360/impl.errBudget"], ifaces := true, plainKeys := false, apart := false, laid := [("loop.example/g01360/impl.errInvalid", laid_loop_example_g01360_impl_errInvalid), ("loop.example/g01360/impl.errRange", laid_loop_example_g01360_impl_errRange), ("loop.example/g01360/impl.errLimit", laid_loop_example_g01360_impl_errLimit), ("loop.example/g01360/impl.errState", laid_loop_example_g01360_impl_errState), ("loop.example/g01360/impl.errSyntax", laid_loop_example_g01360_impl_errSyntax), ("loop.example/g01360/impl.errBudget", laid_loop_example_g01360_impl_errBudget)], narrowed := true }
def FnExactFoldsOfUptoSaid : Prop := fnExactFoldsOfUptoRow.holds Tryd.pinned (OpenSpec.upto fnExactFoldsOfSpec)

/-- 'laws.FnExactBestFold', WHERE WHAT IT READS IS OF BULK AT MOST 1048576: true; the input reads as it did. -/
def fnExactBestFoldUptoRow : OpenClaim := { program := "ytmcpaangofdmpaadoor", sum := "84a6a50c7371c2d251ae389e683f1bd263d5410e18ebcbf82affc3e002deb9a0", func := "loop.example/g01360/laws.FnExactBestFold", spec := "fnExactBestFold", inPlace := ["internal/reflectlite.TypeOf"], unfollowed := true, recurses := true, named := ["loop.example/g01360/impl.errInvalid", "loop.example/g01360/impl.errRange", "loop.example/g01360/impl.errLimit", "loop.example/g01360/impl.errState", "loop.example/g01360/impl.errSyntax", "loop.example/g01360/impl.errBudget"], ifaces := true, plainKeys := false, apart := false, laid := [("loop.example/g01360/impl.errInvalid", laid_loop_example_g01360_impl_errInvalid), ("loop.example/g01360/impl.errRange", laid_loop_example_g01360_impl_errRange), ("loop.example/g01360/impl.errLimit", laid_loop_example_g01360_impl_errLimit), ("loop.example/g01360/impl.errState", laid_loop_example_g01360_impl_errState), ("loop.example/g01360/impl.errSyntax", laid_loop_example_g01360_impl_errSyntax), ("loop.example/g01360/impl.errBudget", laid_loop_example_g01360_impl_errBudget)], narrowed := true }
def FnExactBestFoldUptoSaid : Prop := fnExactBestFoldUptoRow.holds Tryd.pinned (OpenSpec.upto fnExactBestFoldSpec)

/-- 'laws.FnExactUnfoldHalf', WHERE WHAT IT READS IS OF BULK AT MOST 1048576: true; the input reads as it did. -/
def fnExactUnfoldHalfUptoRow : OpenClaim := { program := "ytmcpaangofdmpaadoor", sum := "84a6a50c7371c2d251ae389e683f1bd263d5410e18ebcbf82affc3e002deb9a0", func := "loop.example/g01360/laws.FnExactUnfoldHalf", spec := "fnExactUnfoldHalf", inPlace := ["internal/reflectlite.TypeOf"], unfollowed := true, recurses := true, named := ["loop.example/g01360/impl.errInvalid", "loop.example/g01360/impl.errRange", "loop.example/g01360/impl.errLimit", "loop.example/g01360/impl.errState", "loop.example/g01360/impl.errSyntax", "loop.example/g01360/impl.errBudget"], ifaces := true, plainKeys := false, apart := false, laid := [("loop.example/g01360/impl.errInvalid", laid_loop_example_g01360_impl_errInvalid), ("loop.example/g01360/impl.errRange", laid_loop_example_g01360_impl_errRange), ("loop.example/g01360/impl.errLimit", laid_loop_example_g01360_impl_errLimit), ("loop.example/g01360/impl.errState", laid_loop_example_g01360_impl_errState), ("loop.example/g01360/impl.errSyntax", laid_loop_example_g01360_impl_errSyntax), ("loop.example/g01360/impl.errBudget", laid_loop_example_g01360_impl_errBudget)], narrowed := true }
def FnExactUnfoldHalfUptoSaid : Prop := fnExactUnfoldHalfUptoRow.holds Tryd.pinned (OpenSpec.upto fnExactUnfoldHalfSpec)

/-- 'laws.FnExactBlotOnto', WHERE WHAT IT READS IS OF BULK AT MOST 1048576: true; the input reads as it did. -/
def fnExactBlotOntoUptoRow : OpenClaim := { program := "ytmcpaangofdmpaadoor", sum := "84a6a50c7371c2d251ae389e683f1bd263d5410e18ebcbf82affc3e002deb9a0", func := "loop.example/g01360/laws.FnExactBlotOnto", spec := "fnExactBlotOnto", inPlace := ["internal/reflectlite.TypeOf"], unfollowed := true, recurses := true, named := ["loop.example/g01360/impl.errInvalid", "loop.example/g01360/impl.errRange", "loop.example/g01360/impl.errState", "loop.example/g01360/impl.errLimit", "loop.example/g01360/impl.errSyntax", "loop.example/g01360/impl.errBudget"], ifaces := true, plainKeys := false, apart := false, laid := [("loop.example/g01360/impl.errInvalid", laid_loop_example_g01360_impl_errInvalid), ("loop.example/g01360/impl.errRange", laid_loop_example_g01360_impl_errRange), ("loop.example/g01360/impl.errLimit", laid_loop_example_g01360_impl_errLimit), ("loop.example/g01360/impl.errState", laid_loop_example_g01360_impl_errState), ("loop.example/g01360/impl.errSyntax", laid_loop_example_g01360_impl_errSyntax), ("loop.example/g01360/impl.errBudget", laid_loop_example_g01360_impl_errBudget)], narrowed := true }
def FnExactBlotOntoUptoSaid : Prop := fnExactBlotOntoUptoRow.holds Tryd.pinned (OpenSpec.upto fnExactBlotOntoSpec)

/-- 'laws.FnExactBlotRounds', WHERE WHAT IT READS IS OF BULK AT MOST 1048576: true; the input reads as it did. -/
def fnExactBlotRoundsUptoRow : OpenClaim := { program := "ytmcpaangofdmpaadoor", sum := "84a6a50c7371c2d251ae389e683f1bd263d5410e18ebcbf82affc3e002deb9a0", func := "loop.example/g01360/laws.FnExactBlotRounds", spec := "fnExactBlotRounds", inPlace := ["internal/reflectlite.TypeOf"], unfollowed := true, recurses := true, named := ["loop.example/g01360/impl.errInvalid", "loop.example/g01360/impl.errRange", "loop.example/g01360/impl.errState", "loop.example/g01360/impl.errLimit", "loop.example/g01360/impl.errSyntax", "loop.example/g01360/impl.errBudget"], ifaces := true, plainKeys := false, apart := false, laid := [("loop.example/g01360/impl.errInvalid", laid_loop_example_g01360_impl_errInvalid), ("loop.example/g01360/impl.errRange", laid_loop_example_g01360_impl_errRange), ("loop.example/g01360/impl.errLimit", laid_loop_example_g01360_impl_errLimit), ("loop.example/g01360/impl.errState", laid_loop_example_g01360_impl_errState), ("loop.example/g01360/impl.errSyntax", laid_loop_example_g01360_impl_errSyntax), ("loop.example/g01360/impl.errBudget", laid_loop_example_g01360_impl_errBudget)], narrowed := true }
def FnExactBlotRoundsUptoSaid : Prop := fnExactBlotRoundsUptoRow.holds Tryd.pinned (OpenSpec.upto fnExactBlotRoundsSpec)

/-- 'laws.FnExactEdgeCells', WHERE WHAT IT READS IS OF BULK AT MOST 1048576: true; the input reads as it did. -/
def fnExactEdgeCellsUptoRow : OpenClaim := { program := "ytmcpaangofdmpaadoor", sum := "84a6a50c7371c2d251ae389e683f1bd263d5410e18ebcbf82affc3e002deb9a0", func := "loop.example/g01360/laws.FnExactEdgeCells", spec := "fnExactEdgeCells", inPlace := ["internal/reflectlite.TypeOf"], unfollowed := true, recurses := true, named := ["loop.example/g01360/impl.errInvalid", "loop.example/g01360/impl.errRange", "loop.example/g01360/impl.errLimit", "loop.example/g01360/impl.errState", "loop.example/g01360/impl.errSyntax", "loop.example/g01360/impl.errBudget"], ifaces := true, plainKeys := false, apart := false, laid := [("loop.example/g01360/impl.errInvalid", laid_loop_example_g01360_impl_errInvalid), ("loop.example/g01360/impl.errRange", laid_loop_example_g01360_impl_errRange), ("loop.example/g01360/impl.errLimit", laid_loop_example_g01360_impl_errLimit), ("loop.example/g01360/impl.errState", laid_loop_example_g01360_impl_errState), ("loop.example/g01360/impl.errSyntax", laid_loop_example_g01360_impl_errSyntax), ("loop.example/g01360/impl.errBudget", laid_loop_example_g01360_impl_errBudget)], narrowed := true }
def FnExactEdgeCellsUptoSaid : Prop := fnExactEdgeCellsUptoRow.holds Tryd.pinned (OpenSpec.upto fnExactEdgeCellsSpec)

end Rows
end Go.Proofs.YtmcpaangofdmpaaDoor
