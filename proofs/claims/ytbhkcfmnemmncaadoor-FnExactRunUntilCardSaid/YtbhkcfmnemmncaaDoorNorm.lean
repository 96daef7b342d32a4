import Derived.Deep.RegionHeld3
import Derived.Test.YtbhkcfmnemmncaaDoorBeside
import Derived.Test.YtbhkcfmnemmncaaDoorGive
import Derived.Test.YtbhkcfmnemmncaaDoorArrBase
import Derived.Test.YtbhkcfmnemmncaaDoorAsked
namespace Go.Proofs.YtbhkcfmnemmncaaDoor
open Go.RowKit
set_option maxRecDepth 100000
set_option linter.unusedVariables false
set_option linter.unusedSimpArgs false
set_option linter.unusedSimpArgs false
def Sh.norm (s : Sh) : Sh := { s with dye := fun i => if i < 192 then s.dye i else 0 }
theorem norm_row (s : Sh) : s.norm.row = s.row := vrow_ext _ _ _ fun i hi => by
  unfold Sh.at Sh.norm
  simp only []
  by_cases h0 : i = 0
  · rw [if_pos h0, if_pos h0]
  rw [if_neg h0, if_neg h0]
  by_cases h1 : i = 1
  · rw [if_pos h1, if_pos h1]
  rw [if_neg h1, if_neg h1]
  by_cases h2 : i < 66
  · rw [if_pos h2, if_pos h2]
  rw [if_neg h2, if_neg h2]
  by_cases h3 : i < 258
  · rw [if_pos h3, if_pos h3, if_pos (by omega)]
  rw [if_neg h3, if_neg h3]
theorem norm_fit {s : Sh} (h : s.fit) : s.norm.fit := ⟨h.wide, h.high, h.wet, fun i hi => by
  show -32768 ≤ (if i < 192 then s.dye i else 0) ∧ (if i < 192 then s.dye i else 0) ≤ 32767
  rw [if_pos hi]; exact h.dye i hi, h.wax⟩
theorem inkOk_norm {s : Sh} (hv : okI s.norm = true) : InkOk s.norm := by
  intro i
  by_cases hi : i < 192
  · obtain ⟨_, h0, h1, h2⟩ := ok_bounds _ hv ((i % 24) / 3) (i / 24) (by omega) (by omega)
    have hk : i % 3 = 0 ∨ i % 3 = 1 ∨ i % 3 = 2 := by omega
    rcases hk with e | e | e
    · rw [show 24 * (i / 24) + 3 * ((i % 24) / 3) = i by omega] at h0; exact h0
    · rw [show 24 * (i / 24) + 3 * ((i % 24) / 3) + 1 = i by omega] at h1; exact h1
    · rw [show 24 * (i / 24) + 3 * ((i % 24) / 3) + 2 = i by omega] at h2; exact h2
  · show 0 ≤ (if i < 192 then s.dye i else 0) ∧ (if i < 192 then s.dye i else 0) ≤ 1000
    rw [if_neg hi]; omega
theorem wet_free {s : Sh} (hv : okI s = true) {x y : Nat} (hx : x < 8) (hy : y < 8) (hh : hasB s x y = true) (hw : s.wet (8 * y + x) ≠ 0) : freeB s x y = true := by
  unfold freeB
  rw [hh, Int.toNat_natCast, Int.toNat_natCast]
  cases hx2 : waxB s x y
  · rfl
  · exfalso
    simp only [okI, Bool.and_eq_true, List.all_eq_true] at hv
    have h : validB s x y = true := hv.2.2 ⟨(x, y), hx, hy⟩ (mem_cells _)
    unfold validB at h
    rw [hh, if_pos rfl, hx2, if_pos rfl] at h
    unfold bareB at h
    simp only [Bool.and_eq_true, beq_iff_eq] at h
    exact hw h.1
end Go.Proofs.YtbhkcfmnemmncaaDoor
