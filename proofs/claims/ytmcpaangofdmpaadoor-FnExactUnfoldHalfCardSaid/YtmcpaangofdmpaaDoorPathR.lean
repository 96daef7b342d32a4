import Derived.Laws.AppendOwn
import Derived.Laws.Append
import Derived.OwnWalk
import Derived.Deep.AppendLies
import Derived.Deep.RegionHeld3
import Derived.Test.YtmcpaangofdmpaaDoorPathK
namespace Go.Proofs.YtmcpaangofdmpaaDoor
open Go.RowKit
set_option maxRecDepth 100000
set_option linter.unusedVariables false
set_option linter.unusedSimpArgs false
theorem info_spotP : (Tryd.prog.info? 111).map (fun i => (i.zero, i.size, i.bytes)) = some (some (.agg #[.int .i8 0, .int .i8 0]), 2, 2) := by kernel_rfl
theorem sp2_rowR (a b : Int) : vrow 2 (spAt a b) = #[.int .i8 a, .int .i8 b] := rfl
/-- the values of a path from its end, k spots of n -/
def revV (px py : Nat → Int) (n k : Nat) : List Value := (List.range k).flatMap fun i => [.int .i8 (px (n - 1 - i)), .int .i8 (py (n - 1 - i))]
theorem revV_succ (px py : Nat → Int) (n k : Nat) : revV px py n (k + 1) = revV px py n k ++ [.int .i8 (px (n - 1 - k)), .int .i8 (py (n - 1 - k))] := by
  unfold revV; rw [List.range_succ, List.flatMap_append]; simp
end Go.Proofs.YtmcpaangofdmpaaDoor
