/-
  DERIVED. GIVEN WITH THE SEED: THE PROGRAM's TIES (one call each: nine closed facts by the kernel) AND EACH ROW's TIE, after the 31st guide's Derived/Test/Toyas{Tie, Card}.lean. No idea stands in it: it is a product of the set-up. Laid BY PROGRAM, IN A SANDBOX (cutbox-door.mjs). By AI agents, Wed Nov 11 2026. No macro, syntax, notation, axiom, sorry.
-/
import Derived.Test.YtfhfiaphdgfmnaaDoorRows
import Derived.LaidByTextLater
import Derived.SevenTiedAt
import Derived.LaidSub
import Derived.LaidOnce
namespace Go.Proofs.YtfhfiaphdgfmnaaDoor
open Go
set_option maxRecDepth 100000
theorem seatTie1 : Tryd.prog.laidByTextLater [("loop.example/g01360/impl.errInvalid", Rows.laid_loop_example_g01360_impl_errInvalid), ("loop.example/g01360/impl.errRange", Rows.laid_loop_example_g01360_impl_errRange), ("loop.example/g01360/impl.errLimit", Rows.laid_loop_example_g01360_impl_errLimit), ("loop.example/g01360/impl.errState", Rows.laid_loop_example_g01360_impl_errState), ("loop.example/g01360/impl.errSyntax", Rows.laid_loop_example_g01360_impl_errSyntax), ("loop.example/g01360/impl.errNotFound", Rows.laid_loop_example_g01360_impl_errNotFound), ("loop.example/g01360/impl.errBudget", Rows.laid_loop_example_g01360_impl_errBudget)] [.sentinel, .sentinel, .sentinel, .sentinel, .sentinel, .sentinel, .sentinel] true :=
  Program.laidByTextLater_by_one 142 8 2 (by kernel_rfl) (by kernel_rfl) (by kernel_rfl) (by kernel_rfl) (by kernel_rfl) (by kernel_rfl) (fun _ _ => by kernel_rfl)
theorem noOwnUnsafe : Tryd.pinned.checked.prog.headLifts.contains "ownunsafe" = false := by kernel_rfl
theorem tie : Tryd.prog.laidByTextLater [("loop.example/g01360/impl.errInvalid", Rows.laid_loop_example_g01360_impl_errInvalid), ("loop.example/g01360/impl.errRange", Rows.laid_loop_example_g01360_impl_errRange), ("loop.example/g01360/impl.errLimit", Rows.laid_loop_example_g01360_impl_errLimit), ("loop.example/g01360/impl.errState", Rows.laid_loop_example_g01360_impl_errState), ("loop.example/g01360/impl.errSyntax", Rows.laid_loop_example_g01360_impl_errSyntax), ("loop.example/g01360/impl.errBudget", Rows.laid_loop_example_g01360_impl_errBudget)] [.sentinel, .sentinel, .sentinel, .sentinel, .sentinel, .sentinel] true :=
  Program.laidByTextLater.sub seatTie1 ["loop.example/g01360/impl.errInvalid", "loop.example/g01360/impl.errRange", "loop.example/g01360/impl.errLimit", "loop.example/g01360/impl.errState", "loop.example/g01360/impl.errSyntax", "loop.example/g01360/impl.errBudget"] (by kernel_rfl) (by kernel_rfl)
theorem fnExactPutSheet_row_tie : Rows.fnExactPutSheetRow.laidByTextAt .later Tryd.pinned [.sentinel, .sentinel, .sentinel, .sentinel, .sentinel, .sentinel] true :=
  OpenClaim.laidByTextAt_later rfl rfl tie noOwnUnsafe
theorem fnExactTakeSheet_row_tie : Rows.fnExactTakeSheetRow.laidByTextAt .later Tryd.pinned [.sentinel, .sentinel, .sentinel, .sentinel, .sentinel, .sentinel] true :=
  OpenClaim.laidByTextAt_later rfl rfl tie noOwnUnsafe
theorem fnExactTurnStack_row_tie : Rows.fnExactTurnStackRow.laidByTextAt .later Tryd.pinned [.sentinel, .sentinel, .sentinel, .sentinel, .sentinel, .sentinel] true :=
  OpenClaim.laidByTextAt_later rfl rfl tie noOwnUnsafe
theorem fnExactDyeOf_row_tie : Rows.fnExactDyeOfRow.laidByTextAt .later Tryd.pinned [.sentinel, .sentinel, .sentinel, .sentinel, .sentinel, .sentinel] true :=
  OpenClaim.laidByTextAt_later rfl rfl tie noOwnUnsafe
theorem fnExactReachedBy_row_tie : Rows.fnExactReachedByRow.laidByTextAt .later Tryd.pinned [.sentinel, .sentinel, .sentinel, .sentinel, .sentinel, .sentinel] true :=
  OpenClaim.laidByTextAt_later rfl rfl tie noOwnUnsafe
theorem fnExactWettestSheet_row_tie : Rows.fnExactWettestSheetRow.laidByTextAt .later Tryd.pinned [.sentinel, .sentinel, .sentinel, .sentinel, .sentinel, .sentinel] true :=
  OpenClaim.laidByTextAt_later rfl rfl tie noOwnUnsafe
theorem fnExactDryStack_row_tie : Rows.fnExactDryStackRow.laidByTextAt .later Tryd.pinned [.sentinel, .sentinel, .sentinel, .sentinel, .sentinel, .sentinel] true :=
  OpenClaim.laidByTextAt_later rfl rfl tie noOwnUnsafe
theorem tie2 : Tryd.prog.laidByTextLater [("loop.example/g01360/impl.errInvalid", Rows.laid_loop_example_g01360_impl_errInvalid), ("loop.example/g01360/impl.errRange", Rows.laid_loop_example_g01360_impl_errRange), ("loop.example/g01360/impl.errLimit", Rows.laid_loop_example_g01360_impl_errLimit), ("loop.example/g01360/impl.errState", Rows.laid_loop_example_g01360_impl_errState), ("loop.example/g01360/impl.errSyntax", Rows.laid_loop_example_g01360_impl_errSyntax), ("loop.example/g01360/impl.errNotFound", Rows.laid_loop_example_g01360_impl_errNotFound), ("loop.example/g01360/impl.errBudget", Rows.laid_loop_example_g01360_impl_errBudget)] [.sentinel, .sentinel, .sentinel, .sentinel, .sentinel, .sentinel, .sentinel] true :=
  Program.laidByTextLater.sub seatTie1 ["loop.example/g01360/impl.errInvalid", "loop.example/g01360/impl.errRange", "loop.example/g01360/impl.errLimit", "loop.example/g01360/impl.errState", "loop.example/g01360/impl.errSyntax", "loop.example/g01360/impl.errNotFound", "loop.example/g01360/impl.errBudget"] (by kernel_rfl) (by kernel_rfl)
theorem fnExactDryTimes_row_tie : Rows.fnExactDryTimesRow.laidByTextAt .later Tryd.pinned [.sentinel, .sentinel, .sentinel, .sentinel, .sentinel, .sentinel, .sentinel] true :=
  OpenClaim.laidByTextAt_later rfl rfl tie2 noOwnUnsafe
theorem fnExactPutSheetUpto_row_tie : Rows.fnExactPutSheetUptoRow.laidByTextAt .later Tryd.pinned [.sentinel, .sentinel, .sentinel, .sentinel, .sentinel, .sentinel] true :=
  OpenClaim.laidByTextAt_later rfl rfl tie noOwnUnsafe
theorem fnExactTakeSheetUpto_row_tie : Rows.fnExactTakeSheetUptoRow.laidByTextAt .later Tryd.pinned [.sentinel, .sentinel, .sentinel, .sentinel, .sentinel, .sentinel] true :=
  OpenClaim.laidByTextAt_later rfl rfl tie noOwnUnsafe
theorem fnExactTurnStackUpto_row_tie : Rows.fnExactTurnStackUptoRow.laidByTextAt .later Tryd.pinned [.sentinel, .sentinel, .sentinel, .sentinel, .sentinel, .sentinel] true :=
  OpenClaim.laidByTextAt_later rfl rfl tie noOwnUnsafe
theorem fnExactDyeOfUpto_row_tie : Rows.fnExactDyeOfUptoRow.laidByTextAt .later Tryd.pinned [.sentinel, .sentinel, .sentinel, .sentinel, .sentinel, .sentinel] true :=
  OpenClaim.laidByTextAt_later rfl rfl tie noOwnUnsafe
theorem fnExactReachedByUpto_row_tie : Rows.fnExactReachedByUptoRow.laidByTextAt .later Tryd.pinned [.sentinel, .sentinel, .sentinel, .sentinel, .sentinel, .sentinel] true :=
  OpenClaim.laidByTextAt_later rfl rfl tie noOwnUnsafe
theorem fnExactDryTimesUpto_row_tie : Rows.fnExactDryTimesUptoRow.laidByTextAt .later Tryd.pinned [.sentinel, .sentinel, .sentinel, .sentinel, .sentinel, .sentinel, .sentinel] true :=
  OpenClaim.laidByTextAt_later rfl rfl tie2 noOwnUnsafe
theorem fnExactWettestSheetUpto_row_tie : Rows.fnExactWettestSheetUptoRow.laidByTextAt .later Tryd.pinned [.sentinel, .sentinel, .sentinel, .sentinel, .sentinel, .sentinel] true :=
  OpenClaim.laidByTextAt_later rfl rfl tie noOwnUnsafe
theorem fnExactDryStackUpto_row_tie : Rows.fnExactDryStackUptoRow.laidByTextAt .later Tryd.pinned [.sentinel, .sentinel, .sentinel, .sentinel, .sentinel, .sentinel] true :=
  OpenClaim.laidByTextAt_later rfl rfl tie noOwnUnsafe
end Go.Proofs.YtfhfiaphdgfmnaaDoor
