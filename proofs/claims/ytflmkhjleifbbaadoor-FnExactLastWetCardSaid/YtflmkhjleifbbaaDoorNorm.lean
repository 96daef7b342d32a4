import Derived.Deep.RegionHeld3
import Derived.Test.YtflmkhjleifbbaaDoorBeside
import Derived.Test.YtflmkhjleifbbaaDoorGive
import Derived.Test.YtflmkhjleifbbaaDoorArrBase
import Derived.Test.YtflmkhjleifbbaaDoorAsked
import Derived.Test.YtflmkhjleifbbaaDoorGdB
namespace Go.Proofs.YtflmkhjleifbbaaDoor
open Go.RowKit
set_option maxRecDepth 100000
set_option linter.unusedVariables false
set_option linter.unusedSimpArgs false
set_option linter.unusedSimpArgs false
theorem wet_free {s : Sh} (hv : okI s = true) {x y : Nat} (hx : x < 8) (hy : y < 8) (hh : hasB s x y = true) (hw : s.wet (8 * y + x) ≠ 0) : freeB s x y = true := by
  unfold freeB
  rw [hh, Int.toNat_natCast, Int.toNat_natCast]
  cases hx2 : waxB s x y
  · rfl
  · exfalso
    simp only [okI, Bool.and_eq_true, List.all_eq_true] at hv
    have h : validB s x y = true := hv.2.2 ⟨(x, y), hx, hy⟩ (mem_cells _)
    unfold validB at h
    rw [hh, if_pos rfl, hx2, if_pos rfl] at h
    unfold bareB at h
    simp only [Bool.and_eq_true, beq_iff_eq] at h
    exact hw h.1
end Go.Proofs.YtflmkhjleifbbaaDoor
