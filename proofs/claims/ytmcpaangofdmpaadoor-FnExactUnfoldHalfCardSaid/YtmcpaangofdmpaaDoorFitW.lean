import Derived.Test.YtmcpaangofdmpaaDoorImplV
namespace Go.Proofs.YtmcpaangofdmpaaDoor
open Go.RowKit
set_option maxRecDepth 100000
theorem fitW' (s : Sh) (ho : okI s = true) : ∃ a c : Nat, s.wide = a ∧ s.high = c ∧ (1 ≤ a ∧ a ≤ 8) ∧ (1 ≤ c ∧ c ≤ 8) := by
  simp only [okI, Bool.and_eq_true, decide_eq_true_eq] at ho
  obtain ⟨⟨a1, a2⟩, ⟨a3, a4⟩, _⟩ := ho
  exact ⟨s.wide.toNat, s.high.toNat, by omega, by omega, by omega, by omega⟩
end Go.Proofs.YtmcpaangofdmpaaDoor
