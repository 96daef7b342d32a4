import Derived.Test.YtmcpaangofdmpaaDoorPF1
import Derived.Test.YtmcpaangofdmpaaDoorG1
namespace Go.Proofs.YtmcpaangofdmpaaDoor
open Go.RowKit
set_option maxRecDepth 100000
set_option linter.unusedVariables false
set_option linter.unusedSimpArgs false
theorem bdP_ok {s : Sh} (ho : okI s = true) : bdP s := ⟨fun j hj => by
  have h := ok_bounds s ho (j / 3 % 8) (j / 24) (by omega) (by omega)
  have e : j = 24 * (j / 24) + 3 * (j / 3 % 8) + j % 3 := by omega
  have hm : j % 3 = 0 ∨ j % 3 = 1 ∨ j % 3 = 2 := by omega
  rcases hm with h0 | h0 | h0
  · rw [e, h0]; exact h.2.1
  · rw [e, h0]; exact h.2.2.1
  · rw [e, h0]; exact h.2.2.2, fun j hj => by
  have h := (ok_bounds s ho (j % 8) (j / 8) (by omega) (by omega)).1
  rw [show 8 * (j / 8) + j % 8 = j by omega] at h
  omega⟩
theorem fitW (s : Sh) (ho : okI s = true) : ∃ a c : Nat, s.wide = a ∧ s.high = c ∧ (1 ≤ a ∧ a ≤ 8) ∧ (1 ≤ c ∧ c ≤ 8) := by
  simp only [okI, Bool.and_eq_true, decide_eq_true_eq] at ho
  obtain ⟨⟨a1, a2⟩, ⟨a3, a4⟩, _⟩ := ho
  exact ⟨s.wide.toNat, s.high.toNat, by omega, by omega, by omega, by omega⟩
end Go.Proofs.YtmcpaangofdmpaaDoor
