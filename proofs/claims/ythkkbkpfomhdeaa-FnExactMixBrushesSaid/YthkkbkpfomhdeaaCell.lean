import Derived.Test.YthkkbkpfomhdeaaPtrs
namespace Go.Proofs.Ythkkbkpfomhdeaa
open Go.RowKit
set_option maxRecDepth 100000
set_option linter.unusedVariables false
def wOk (s : Sh) (x y : Nat) : Bool := decide (0 ≤ s.wet (8 * y + x)) && decide (s.wet (8 * y + x) ≤ 200)
def dOk (s : Sh) (x y i : Nat) : Bool := decide (0 ≤ s.dye (24 * y + 3 * x + i)) && decide (s.dye (24 * y + 3 * x + i) ≤ 1000)
def psum (s : Sh) (x y : Nat) : Nat → Int
  | 0 => s.wet (8 * y + x)
  | k + 1 => psum s x y k + s.dye (24 * y + 3 * x + k)
def cellB (s : Sh) (x y : Nat) : Bool := wOk s x y && ((dOk s x y 0 && (dOk s x y 1 && dOk s x y 2)) && ((psum s x y 3 == 0) || (hasB s x y && !waxB s x y)))
theorem psum_bd (s : Sh) (x y : Nat) (hw : wOk s x y = true) : ∀ k, k ≤ 3 → (∀ j, j < k → dOk s x y j = true) → 0 ≤ psum s x y k ∧ psum s x y k ≤ 200 + 1000 * k
  | 0, _, _ => by simp [wOk] at hw; simp [psum]; omega
  | k + 1, hk, h => by
    have h1 := psum_bd s x y hw k (by omega) (fun j hj => h j (by omega))
    have h2 := h k (by omega)
    simp [dOk] at h2
    simp only [psum]; omega
end Go.Proofs.Ythkkbkpfomhdeaa
