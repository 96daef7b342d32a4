import Derived.Deep.RegionHeld3
import Derived.Test.YtfhfiaphdgfmnaaDoorClos
import Derived.Test.YtfhfiaphdgfmnaaDoorWax2
namespace Go.Proofs.YtfhfiaphdgfmnaaDoor
open Go.RowKit
set_option maxRecDepth 100000
set_option linter.unusedVariables false
set_option linter.unusedSimpArgs false
set_option linter.unusedSimpArgs false
theorem res_row1 {P : Program} {fn : Func} {tmps : Array Value} {w : World} {p : Tmp} {ty : TypeId} (hr : fn.results = #[.cell p ty]) (b : Nat) (n : Nat) (f : Nat → Value) (t : TypeId) (d : TypeDesc) (hu : P.underlying ty = some d) (hd : d.isRow = true) (hi : (P.info? ty).map (·.size) = some n)
    (hp : tmps.getD p undef = .pointer (some ⟨b, 0, none⟩)) (hg : w.heap[b]? = some (.cells (vrow n f) t)) : (results fn tmps).run P w = .ok (.agg (vrow n f)) w :=
  results_cell_row hr _ _ b t _ (0, 0) d hp hg hu (by cases d <;> first | rfl | exact hd) (by rw [vrow_size]; exact hi)
theorem d3_row (s : Sh) (o j : Nat) (ho : o = 66 + j) (hj : j + 3 ≤ 192) : vrow 3 (fun i => s.at (o + i)) = vrow 3 fun i => .int .i16 (s.dye (j + i)) := vrow_ext _ _ _ fun i hi => by rw [Sh.at_dye1 _ _ (j + i) (by omega) (by omega)]
end Go.Proofs.YtfhfiaphdgfmnaaDoor
