import Derived.Test.YthienbbecbakjaaDoorCodeOf
import Derived.Test.YthienbbecbakjaaDoorEqSheet
namespace Go.Proofs.YthienbbecbakjaaDoor
open Go.RowKit
set_option maxRecDepth 100000
set_option linter.unusedVariables false
theorem rw_lspot : (Tryd.prog.underlying 63).map (·.isRow) = some true := by kernel_rfl
theorem size_lspot : (Tryd.prog.info? 63).map (·.size) = some 2 := by kernel_rfl
set_option maxHeartbeats 400000 in
theorem toSpot_any (x y : Int) (w : World) : Calls Tryd.prog 31 #[.agg #[.int .i8 x, .int .i8 y]] w fun e w' => e = .returned (.agg #[.int .i8 x, .int .i8 y]) ∧ Below w.heap.size w w' := by
  go_enter Tryd.func31, Tryd.ntmps31
  go_wp2
  refine ret_row Tryd.results31 _ 2 (spAt x y) 61 _ Tryd.underlying61 rfl size_spot rfl rfl (heap_past _ _ _ _ (by simp) (heap_at _ _ _ (by simp))) ?_
  exact ⟨rfl, (((Below.refl _ _).alloc (Nat.le_refl _) _).alloc (by simp) _).alloc (by simp; omega) _⟩
end Go.Proofs.YthienbbecbakjaaDoor
