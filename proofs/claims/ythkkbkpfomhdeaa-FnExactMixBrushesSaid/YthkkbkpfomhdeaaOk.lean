import Derived.Test.YthkkbkpfomhdeaaCell
namespace Go.Proofs.Ythkkbkpfomhdeaa
open Go.RowKit
set_option maxRecDepth 100000
set_option linter.unusedVariables false
def placeB (s : Sh) (x y : Nat) : Bool := (hasB s x y || !waxB s x y) && cellB s x y
def okB (s : Sh) : Bool := (decide (1 ≤ s.wide) && decide (s.wide ≤ 8)) && ((decide (1 ≤ s.high) && decide (s.high ≤ 8)) && (List.range 64).all fun i => placeB s (i % 8) (i / 8))
theorem okB_no (s : Sh) (i : Nat) (hi : i < 64) (h : placeB s (i % 8) (i / 8) = false) : okB s = false := by
  have : ((List.range 64).all fun i => placeB s (i % 8) (i / 8)) = false := by
    rw [List.all_eq_false]; exact ⟨i, by simpa using hi, by simp [h]⟩
  simp [okB, this]
theorem okB_yes (s : Sh) (h1 : 1 ≤ s.wide) (h2 : s.wide ≤ 8) (h3 : 1 ≤ s.high) (h4 : s.high ≤ 8) (h : ∀ i, i < 64 → placeB s (i % 8) (i / 8) = true) : okB s = true := by
  have : ((List.range 64).all fun i => placeB s (i % 8) (i / 8)) = true := by
    rw [List.all_eq_true]; intro i hi; exact h i (by simpa using hi)
  simp [okB, this, h1, h2, h3, h4]
theorem spAt_one (x y : Int) (i : Nat) : (spAt x y i).oneCell' = true := by unfold spAt; split <;> rfl
end Go.Proofs.Ythkkbkpfomhdeaa
