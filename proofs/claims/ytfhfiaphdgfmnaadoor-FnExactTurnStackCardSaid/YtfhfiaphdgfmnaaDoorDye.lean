import Derived.Test.YtfhfiaphdgfmnaaDoorReaders2
namespace Go.Proofs.YtfhfiaphdgfmnaaDoor
open Go.RowKit
set_option maxRecDepth 100000
set_option linter.unusedVariables false
def inkB (k : Int) : Bool := decide (0 ≤ k) && decide (k ≤ 2)
theorem linkI_any (k : Int) (w : World) : Calls Tryd.prog 61 #[.int .i64 k] w fun e w' => e = .returned (.bool (inkB k)) ∧ Below w.heap.size w w' := by
  have hB := Go.Lib.hid (Below.refl w.heap.size w)
  by_cases h : 0 ≤ k ∧ k ≤ 2
  · have HR := Go.Lib.hid (show inkB k = true by simp [inkB]; omega)
    obtain ⟨h1, h2⟩ := h
    go_enter Tryd.func61, Tryd.ntmps61
    go_wp2_with (first
    | (go_at_call 40; ((refine (in_yes _ _ _ (by omega) (by omega) _).mono ?_); rintro e w1 ⟨rfl, hb⟩; replace hB := Go.Lib.hid (below_next hB.out hb); clear hb)))
    go_ret
    exact ⟨by rw [HR.out]; rfl, hB.out⟩
  · have h' : k < 0 ∨ 2 < k := by omega
    have HR := Go.Lib.hid (show inkB k = false by simp [inkB]; omega)
    clear h
    go_enter Tryd.func61, Tryd.ntmps61
    go_wp2_with (first
    | (go_at_call 40; ((refine (in_no _ _ _ (by omega) _).mono ?_); rintro e w1 ⟨rfl, hb⟩; replace hB := Go.Lib.hid (below_next hB.out hb); clear hb)))
    go_ret
    exact ⟨by rw [HR.out]; rfl, hB.out⟩
end Go.Proofs.YtfhfiaphdgfmnaaDoor
