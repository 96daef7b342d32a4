/-
  NARROWER THAN 'FOR EVERY INPUT', by the rows' own cells (each row's printed sentence says how): FnExactDriesIn: ifaces, laid · FnExactRingsOf: ifaces, laid · FnExactLastWet: ifaces, laid · FnExactRingCells: ifaces, laid.
  DERIVED. THE GIVEN ROWS OF THIS SEAT. 4 by the template 'for every input the law returns true; each argument reads behind the call as it read before'; 0 by the template 'total and deterministic' (their statements: YtflmkhjleifbbaaDoorTotals.lean).
  GIVEN WITH THE SEED: the statements are not yours to turn. If you find one false, say at which input.
  Laid BY PROGRAM, IN A SANDBOX (cutbox-rows.mjs): the forced cells as the released guide's own fill.sh prints them over the translation 1ca9b01e0fd3f9a7… (all of the seat's roots in one cut). By AI agents, Wed Nov 11 2026. No macro, syntax, notation, axiom, sorry.
-/
import Derived.Test.YtflmkhjleifbbaaDoorChecked
import GoSem.Claim
import GoSem.ClaimJoined
import GoSem.ClaimMapViews
import Derived.JoinedTies
import Derived.KernelRfl
namespace Go.Proofs.YtflmkhjleifbbaaDoor
/- THE CELL 'sum', in the pinned program and in every row, IS THE sha256 OF THE DUMP (.gsa) THAT YtflmkhjleifbbaaDoorProg.lean LOADS. Nothing in Lean hashes anything: it is a label: what it is worth is what the hold of that sum in a sandbox is worth. -/
noncomputable def Tryd.pinned : Pinned := { name := "ytflmkhjleifbbaadoor", sum := "1ca9b01e0fd3f9a74a045d4d36b3e0846f3fbad91e173786412be9e6f8f52dff", checked := Tryd.checked }
namespace Rows
def none {H : Type} : Left H := { results := [], args := [] }

/- WHAT THE LISTED PACKAGE-LEVEL VARIABLES READ AS WHEN THE CALL BEGINS. Each datum BY PROGRAM (the guide's laid-datum.mjs) off the statement by which the dump's own 'gosem.cut.vars' lays the variable. In a bare row this is a premise. The card (YtflmkhjleifbbaaDoorCards.lean) ties it to the program's text. -/
def laid_loop_example_g01360_impl_errInvalid {H : Type} : DataW H := .iface "*errors.errorString" (.ptr (.agg [.lit (.string [105, 110, 118, 97, 108, 105, 100])]))
def laid_loop_example_g01360_impl_errRange {H : Type} : DataW H := .iface "*errors.errorString" (.ptr (.agg [.lit (.string [114, 97, 110, 103, 101])]))
def laid_loop_example_g01360_impl_errLimit {H : Type} : DataW H := .iface "*errors.errorString" (.ptr (.agg [.lit (.string [108, 105, 109, 105, 116])]))
def laid_loop_example_g01360_impl_errState {H : Type} : DataW H := .iface "*errors.errorString" (.ptr (.agg [.lit (.string [115, 116, 97, 116, 101])]))
def laid_loop_example_g01360_impl_errSyntax {H : Type} : DataW H := .iface "*errors.errorString" (.ptr (.agg [.lit (.string [115, 121, 110, 116, 97, 120])]))
def laid_loop_example_g01360_impl_errNotFound {H : Type} : DataW H := .iface "*errors.errorString" (.ptr (.agg [.lit (.string [110, 111, 116, 102, 111, 117, 110, 100])]))
def laid_loop_example_g01360_impl_errBudget {H : Type} : DataW H := .iface "*errors.errorString" (.ptr (.agg [.lit (.string [98, 117, 100, 103, 101, 116])]))

/-- 'laws.FnExactDriesIn': WHATEVER THE INPUT: true; the input reads as it did. -/
def fnExactDriesInSpec : ChangeSpec := { name := "fnExactDriesIn", vars := ["loop.example/g01360/impl.errInvalid", "loop.example/g01360/impl.errRange", "loop.example/g01360/impl.errLimit", "loop.example/g01360/impl.errState", "loop.example/g01360/impl.errSyntax", "loop.example/g01360/impl.errBudget", "loop.example/g01360/impl.errNotFound"], fn := fun _ => fun
  | [d, g1, g2, g3, g4, g5, g6, g7] => { results := [.lit (.bool true)], args := [d], vars := [g1, g2, g3, g4, g5, g6, g7] }
  | _ => none }
def fnExactDriesInRow : OpenClaim := { program := "ytflmkhjleifbbaadoor", sum := "1ca9b01e0fd3f9a74a045d4d36b3e0846f3fbad91e173786412be9e6f8f52dff", func := "loop.example/g01360/laws.FnExactDriesIn", spec := "fnExactDriesIn", inPlace := ["internal/reflectlite.TypeOf"], unfollowed := true, recurses := true, named := ["loop.example/g01360/impl.errInvalid", "loop.example/g01360/impl.errRange", "loop.example/g01360/impl.errLimit", "loop.example/g01360/impl.errState", "loop.example/g01360/impl.errSyntax", "loop.example/g01360/impl.errBudget", "loop.example/g01360/impl.errNotFound"], ifaces := true, apart := false, laid := [("loop.example/g01360/impl.errInvalid", laid_loop_example_g01360_impl_errInvalid), ("loop.example/g01360/impl.errRange", laid_loop_example_g01360_impl_errRange), ("loop.example/g01360/impl.errLimit", laid_loop_example_g01360_impl_errLimit), ("loop.example/g01360/impl.errState", laid_loop_example_g01360_impl_errState), ("loop.example/g01360/impl.errSyntax", laid_loop_example_g01360_impl_errSyntax), ("loop.example/g01360/impl.errNotFound", laid_loop_example_g01360_impl_errNotFound), ("loop.example/g01360/impl.errBudget", laid_loop_example_g01360_impl_errBudget)] }
def FnExactDriesInSaid : Prop := fnExactDriesInRow.holds Tryd.pinned (OpenSpec.ofChange fnExactDriesInSpec)

/-- ITS FALSE NEIGHBOUR: 'it returns false'. Refute it at one input. -/
def fnExactDriesInWrong : ChangeSpec := { name := "fnExactDriesIn", vars := ["loop.example/g01360/impl.errInvalid", "loop.example/g01360/impl.errRange", "loop.example/g01360/impl.errLimit", "loop.example/g01360/impl.errState", "loop.example/g01360/impl.errSyntax", "loop.example/g01360/impl.errBudget", "loop.example/g01360/impl.errNotFound"], fn := fun _ => fun
  | [d, g1, g2, g3, g4, g5, g6, g7] => { results := [.lit (.bool false)], args := [d], vars := [g1, g2, g3, g4, g5, g6, g7] }
  | _ => none }
def FnExactDriesInWrongFalsely : Prop := fnExactDriesInRow.holds Tryd.pinned (OpenSpec.ofChange fnExactDriesInWrong)

/-- 'laws.FnExactRingsOf': WHATEVER THE INPUT: true; the input reads as it did. -/
def fnExactRingsOfSpec : ChangeSpec := { name := "fnExactRingsOf", vars := ["loop.example/g01360/impl.errInvalid", "loop.example/g01360/impl.errRange", "loop.example/g01360/impl.errLimit", "loop.example/g01360/impl.errState", "loop.example/g01360/impl.errSyntax", "loop.example/g01360/impl.errBudget"], fn := fun _ => fun
  | [d, g1, g2, g3, g4, g5, g6] => { results := [.lit (.bool true)], args := [d], vars := [g1, g2, g3, g4, g5, g6] }
  | _ => none }
def fnExactRingsOfRow : OpenClaim := { program := "ytflmkhjleifbbaadoor", sum := "1ca9b01e0fd3f9a74a045d4d36b3e0846f3fbad91e173786412be9e6f8f52dff", func := "loop.example/g01360/laws.FnExactRingsOf", spec := "fnExactRingsOf", inPlace := ["internal/reflectlite.TypeOf"], unfollowed := true, recurses := true, named := ["loop.example/g01360/impl.errInvalid", "loop.example/g01360/impl.errRange", "loop.example/g01360/impl.errLimit", "loop.example/g01360/impl.errState", "loop.example/g01360/impl.errSyntax", "loop.example/g01360/impl.errBudget"], ifaces := true, apart := false, laid := [("loop.example/g01360/impl.errInvalid", laid_loop_example_g01360_impl_errInvalid), ("loop.example/g01360/impl.errRange", laid_loop_example_g01360_impl_errRange), ("loop.example/g01360/impl.errLimit", laid_loop_example_g01360_impl_errLimit), ("loop.example/g01360/impl.errState", laid_loop_example_g01360_impl_errState), ("loop.example/g01360/impl.errSyntax", laid_loop_example_g01360_impl_errSyntax), ("loop.example/g01360/impl.errBudget", laid_loop_example_g01360_impl_errBudget)] }
def FnExactRingsOfSaid : Prop := fnExactRingsOfRow.holds Tryd.pinned (OpenSpec.ofChange fnExactRingsOfSpec)

/-- ITS FALSE NEIGHBOUR: 'it returns false'. Refute it at one input. -/
def fnExactRingsOfWrong : ChangeSpec := { name := "fnExactRingsOf", vars := ["loop.example/g01360/impl.errInvalid", "loop.example/g01360/impl.errRange", "loop.example/g01360/impl.errLimit", "loop.example/g01360/impl.errState", "loop.example/g01360/impl.errSyntax", "loop.example/g01360/impl.errBudget"], fn := fun _ => fun
  | [d, g1, g2, g3, g4, g5, g6] => { results := [.lit (.bool false)], args := [d], vars := [g1, g2, g3, g4, g5, g6] }
  | _ => none }
def FnExactRingsOfWrongFalsely : Prop := fnExactRingsOfRow.holds Tryd.pinned (OpenSpec.ofChange fnExactRingsOfWrong)

/-- 'laws.FnExactLastWet': WHATEVER THE INPUT: true; the input reads as it did. -/
def fnExactLastWetSpec : ChangeSpec := { name := "fnExactLastWet", vars := ["loop.example/g01360/impl.errInvalid", "loop.example/g01360/impl.errRange", "loop.example/g01360/impl.errLimit", "loop.example/g01360/impl.errState", "loop.example/g01360/impl.errSyntax", "loop.example/g01360/impl.errBudget", "loop.example/g01360/impl.errNotFound"], fn := fun _ => fun
  | [d, g1, g2, g3, g4, g5, g6, g7] => { results := [.lit (.bool true)], args := [d], vars := [g1, g2, g3, g4, g5, g6, g7] }
  | _ => none }
def fnExactLastWetRow : OpenClaim := { program := "ytflmkhjleifbbaadoor", sum := "1ca9b01e0fd3f9a74a045d4d36b3e0846f3fbad91e173786412be9e6f8f52dff", func := "loop.example/g01360/laws.FnExactLastWet", spec := "fnExactLastWet", inPlace := ["internal/reflectlite.TypeOf"], unfollowed := true, recurses := true, named := ["loop.example/g01360/impl.errInvalid", "loop.example/g01360/impl.errRange", "loop.example/g01360/impl.errLimit", "loop.example/g01360/impl.errState", "loop.example/g01360/impl.errSyntax", "loop.example/g01360/impl.errBudget", "loop.example/g01360/impl.errNotFound"], ifaces := true, apart := false, laid := [("loop.example/g01360/impl.errInvalid", laid_loop_example_g01360_impl_errInvalid), ("loop.example/g01360/impl.errRange", laid_loop_example_g01360_impl_errRange), ("loop.example/g01360/impl.errLimit", laid_loop_example_g01360_impl_errLimit), ("loop.example/g01360/impl.errState", laid_loop_example_g01360_impl_errState), ("loop.example/g01360/impl.errSyntax", laid_loop_example_g01360_impl_errSyntax), ("loop.example/g01360/impl.errNotFound", laid_loop_example_g01360_impl_errNotFound), ("loop.example/g01360/impl.errBudget", laid_loop_example_g01360_impl_errBudget)] }
def FnExactLastWetSaid : Prop := fnExactLastWetRow.holds Tryd.pinned (OpenSpec.ofChange fnExactLastWetSpec)

/-- ITS FALSE NEIGHBOUR: 'it returns false'. Refute it at one input. -/
def fnExactLastWetWrong : ChangeSpec := { name := "fnExactLastWet", vars := ["loop.example/g01360/impl.errInvalid", "loop.example/g01360/impl.errRange", "loop.example/g01360/impl.errLimit", "loop.example/g01360/impl.errState", "loop.example/g01360/impl.errSyntax", "loop.example/g01360/impl.errBudget", "loop.example/g01360/impl.errNotFound"], fn := fun _ => fun
  | [d, g1, g2, g3, g4, g5, g6, g7] => { results := [.lit (.bool false)], args := [d], vars := [g1, g2, g3, g4, g5, g6, g7] }
  | _ => none }
def FnExactLastWetWrongFalsely : Prop := fnExactLastWetRow.holds Tryd.pinned (OpenSpec.ofChange fnExactLastWetWrong)

/-- 'laws.FnExactRingCells': WHATEVER THE INPUT: true; the input reads as it did. -/
def fnExactRingCellsSpec : ChangeSpec := { name := "fnExactRingCells", vars := ["loop.example/g01360/impl.errRange", "loop.example/g01360/impl.errInvalid", "loop.example/g01360/impl.errLimit", "loop.example/g01360/impl.errState", "loop.example/g01360/impl.errSyntax", "loop.example/g01360/impl.errBudget"], fn := fun _ => fun
  | [d1, d2, g1, g2, g3, g4, g5, g6] => { results := [.lit (.bool true)], args := [d1, d2], vars := [g1, g2, g3, g4, g5, g6] }
  | _ => none }
def fnExactRingCellsRow : OpenClaim := { program := "ytflmkhjleifbbaadoor", sum := "1ca9b01e0fd3f9a74a045d4d36b3e0846f3fbad91e173786412be9e6f8f52dff", func := "loop.example/g01360/laws.FnExactRingCells", spec := "fnExactRingCells", inPlace := ["internal/reflectlite.TypeOf"], unfollowed := true, recurses := true, named := ["loop.example/g01360/impl.errRange", "loop.example/g01360/impl.errInvalid", "loop.example/g01360/impl.errLimit", "loop.example/g01360/impl.errState", "loop.example/g01360/impl.errSyntax", "loop.example/g01360/impl.errBudget"], ifaces := true, apart := false, laid := [("loop.example/g01360/impl.errInvalid", laid_loop_example_g01360_impl_errInvalid), ("loop.example/g01360/impl.errRange", laid_loop_example_g01360_impl_errRange), ("loop.example/g01360/impl.errLimit", laid_loop_example_g01360_impl_errLimit), ("loop.example/g01360/impl.errState", laid_loop_example_g01360_impl_errState), ("loop.example/g01360/impl.errSyntax", laid_loop_example_g01360_impl_errSyntax), ("loop.example/g01360/impl.errBudget", laid_loop_example_g01360_impl_errBudget)] }
def FnExactRingCellsSaid : Prop := fnExactRingCellsRow.holds Tryd.pinned (OpenSpec.ofChange fnExactRingCellsSpec)

/-- ITS FALSE NEIGHBOUR: 'it returns false'. Refute it at one input. -/
def fnExactRingCellsWrong : ChangeSpec := { name := "fnExactRingCells", vars := ["loop.example/g01360/impl.errRange", "loop.example/g01360/impl.errInvalid", "loop.example/g01360/impl.errLimit", "loop.example/g01360/impl.errState", "loop.example/g01360/impl.errSyntax", "loop.example/g01360/impl.errBudget"], fn := fun _ => fun
  | [d1, d2, g1, g2, g3, g4, g5, g6] => { results := [.lit (.bool false)], args := [d1, d2], vars := [g1, g2, g3, g4, g5, g6] }
  | _ => none }
def FnExactRingCellsWrongFalsely : Prop := fnExactRingCellsRow.holds Tryd.pinned (OpenSpec.ofChange fnExactRingCellsWrong)

/- THE SECOND FORM. 'bulk': how many values and letters a reading holds, each counted each time it is reached (what is shared counts as often as it is met; a slice's spare places count too). A statement '..UptoSaid' is the law's where the arguments, and the package variables that the reading takes, are together of bulk at most 1048576: NARROWER than '..Said'. Prove '..Said' where nothing that the law and all that it calls make is longer than what came in: it says more and counts as full. Else prove '..UptoSaid'. A law counts once. -/
mutual
def uptoBulk {H : Type} : DataW H → Nat
  | .lit (.string bytes) => bytes.length + 1
  | .lit _ => 1
  | .nil => 1
  | .ptr d => uptoBulk d + 1
  | .slice elems spare => uptoBulkAll elems + uptoBulkAll spare + 1
  | .agg parts => uptoBulkAll parts + 1
  | .iface _ d => uptoBulk d + 1
  | .map entries => uptoBulkEntries entries + 1
  | .held _ => 1
def uptoBulkAll {H : Type} : List (DataW H) → Nat
  | [] => 0
  | d :: r => uptoBulk d + uptoBulkAll r
def uptoBulkEntries {H : Type} : List (Lit × DataW H) → Nat
  | [] => 0
  | x :: r => uptoBulkEntry x + uptoBulkEntries r
def uptoBulkEntry {H : Type} : Lit × DataW H → Nat
  | (.string bytes, d) => bytes.length + uptoBulk d + 1
  | (_, d) => uptoBulk d + 1
 end
def uptoSmall : (H : Type) → List (DataW H) → Bool := fun _ ds => decide (uptoBulkAll ds ≤ 1048576)
def OpenSpec.upto (s : _root_.Go.ChangeSpec) : _root_.Go.OpenSpec := { _root_.Go.OpenSpec.ofChange s with cond := some uptoSmall }

/-- 'laws.FnExactDriesIn', WHERE WHAT IT READS IS OF BULK AT MOST 1048576: true; the input reads as it did. -/
def fnExactDriesInUptoRow : OpenClaim := { program := "ytflmkhjleifbbaadoor", sum := "1ca9b01e0fd3f9a74a045d4d36b3e0846f3fbad91e173786412be9e6f8f52dff", func := "loop.example/g01360/laws.FnExactDriesIn", spec := "fnExactDriesIn", inPlace := ["internal/reflectlite.TypeOf"], unfollowed := true, recurses := true, named := ["loop.example/g01360/impl.errInvalid", "loop.example/g01360/impl.errRange", "loop.example/g01360/impl.errLimit", "loop.example/g01360/impl.errState", "loop.example/g01360/impl.errSyntax", "loop.example/g01360/impl.errBudget", "loop.example/g01360/impl.errNotFound"], ifaces := true, apart := false, laid := [("loop.example/g01360/impl.errInvalid", laid_loop_example_g01360_impl_errInvalid), ("loop.example/g01360/impl.errRange", laid_loop_example_g01360_impl_errRange), ("loop.example/g01360/impl.errLimit", laid_loop_example_g01360_impl_errLimit), ("loop.example/g01360/impl.errState", laid_loop_example_g01360_impl_errState), ("loop.example/g01360/impl.errSyntax", laid_loop_example_g01360_impl_errSyntax), ("loop.example/g01360/impl.errNotFound", laid_loop_example_g01360_impl_errNotFound), ("loop.example/g01360/impl.errBudget", laid_loop_example_g01360_impl_errBudget)], narrowed := true }
def FnExactDriesInUptoSaid : Prop := fnExactDriesInUptoRow.holds Tryd.pinned (OpenSpec.upto fnExactDriesInSpec)

/-- 'laws.FnExactRingsOf', WHERE WHAT IT READS IS OF BULK AT MOST 1048576: true; the input reads as it did. -/
def fnExactRingsOfUptoRow : OpenClaim := { program := "ytflmkhjleifbbaadoor", sum := "1ca9b01e0fd3f9a74a045d4d36b3e0846f3fbad91e173786412be9e6f8f52dff", func := "loop.example/g01360/laws.FnExactRingsOf", spec := "fnExactRingsOf", inPlace := ["internal/reflectlite.TypeOf"], unfollowed := true, recurses := true, named := ["loop.example/g01360/impl.errInvalid", "loop.example/g01360/impl.errRange", "loop.example/g01360/impl.errLimit", "loop.example/g01360/impl.errState", "loop.example/g01360/impl.errSyntax", "loop.example/g01360/impl.errBudget"], ifaces := true, apart := false, laid := [("loop.example/g01360/impl.errInvalid", laid_loop_example_g01360_impl_errInvalid), ("loop.example/g01360/impl.errRange", laid_loop_example_g01360_impl_errRange), ("loop.example/g01360/impl.errLimit", laid_loop_example_g01360_impl_errLimit), ("loop.example/g01360/impl.errState", laid_loop_example_g01360_impl_errState), ("loop.example/g01360/impl.errSyntax", laid_loop_example_g01360_impl_errSyntax), ("loop.example/g01360/impl.errBudget", laid_loop_example_g01360_impl_errBudget)], narrowed := true }
def FnExactRingsOfUptoSaid : Prop := fnExactRingsOfUptoRow.holds Tryd.pinned (OpenSpec.upto fnExactRingsOfSpec)

/-- 'laws.FnExactLastWet', WHERE WHAT IT READS IS OF BULK AT MOST 1048576: true; the input reads as it did. -/
def fnExactLastWetUptoRow : OpenClaim := { program := "ytflmkhjleifbbaadoor", sum := "1ca9b01e0fd3f9a74a045d4d36b3e0846f3fbad91e173786412be9e6f8f52dff", func := "loop.example/g01360/laws.FnExactLastWet", spec := "fnExactLastWet", inPlace := ["internal/reflectlite.TypeOf"], unfollowed := true, recurses := true, named := ["loop.example/g01360/impl.errInvalid", "loop.example/g01360/impl.errRange", "loop.example/g01360/impl.errLimit", "loop.example/g01360/impl.errState", "loop.example/g01360/impl.errSyntax", "loop.example/g01360/impl.errBudget", "loop.example/g01360/impl.errNotFound"], ifaces := true, apart := false, laid := [("loop.example/g01360/impl.errInvalid", laid_loop_example_g01360_impl_errInvalid), ("loop.example/g01360/impl.errRange", laid_loop_example_g01360_impl_errRange), ("loop.example/g01360/impl.errLimit", laid_loop_example_g01360_impl_errLimit), ("loop.example/g01360/impl.errState", laid_loop_example_g01360_impl_errState), ("loop.example/g01360/impl.errSyntax", laid_loop_example_g01360_impl_errSyntax), ("loop.example/g01360/impl.errNotFound", laid_loop_example_g01360_impl_errNotFound), ("loop.example/g01360/impl.errBudget", laid_loop_example_g01360_impl_errBudget)], narrowed := true }
def FnExactLastWetUptoSaid : Prop := fnExactLastWetUptoRow.holds Tryd.pinned (OpenSpec.upto fnExactLastWetSpec)

/-- 'laws.FnExactRingCells', WHERE WHAT IT READS IS OF BULK AT MOST 1048576: true; the input reads as it did. -/
def fnExactRingCellsUptoRow : OpenClaim := { program := "ytflmkhjleifbbaadoor", sum := "1ca9b01e0fd3f9a74a045d4d36b3e0846f3fbad91e173786412be9e6f8f52dff", func := "loop.example/g01360/laws.FnExactRingCells", spec := "fnExactRingCells", inPlace := ["internal/reflectlite.TypeOf"], unfollowed := true, recurses := true, named := ["loop.example/g01360/impl.errRange", "loop.example/g01360/impl.errInvalid", "loop.example/g01360/impl.errLimit", "loop.example/g01360/impl.errState", "loop.example/g01360/impl.errSyntax", "loop.example/g01360/impl.errBudget"], ifaces := true, apart := false, laid := [("loop.example/g01360/impl.errInvalid", laid_loop_example_g01360_impl_errInvalid), ("loop.example/g01360/impl.errRange", laid_loop_example_g01360_impl_errRange), ("loop.example/g01360/impl.errLimit", laid_loop_example_g01360_impl_errLimit), ("loop.example/g01360/impl.errState", laid_loop_example_g01360_impl_errState), ("loop.example/g01360/impl.errSyntax", laid_loop_example_g01360_impl_errSyntax), ("loop.example/g01360/impl.errBudget", laid_loop_example_g01360_impl_errBudget)], narrowed := true }
def FnExactRingCellsUptoSaid : Prop := fnExactRingCellsUptoRow.holds Tryd.pinned (OpenSpec.upto fnExactRingCellsSpec)

end Rows
end Go.Proofs.YtflmkhjleifbbaaDoor
