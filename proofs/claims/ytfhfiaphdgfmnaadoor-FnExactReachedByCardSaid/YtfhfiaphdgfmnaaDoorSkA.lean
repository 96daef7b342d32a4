import Derived.Test.YtfhfiaphdgfmnaaDoorStS
namespace Go.Proofs.YtfhfiaphdgfmnaaDoor
open Go.RowKit
set_option maxRecDepth 100000
set_option linter.unusedVariables false
set_option linter.unusedSimpArgs false
/-- all of the first n -/
def alN (q : Nat → Bool) : Nat → Bool
  | 0 => true
  | k + 1 => alN q k && q k
theorem alN_no {q : Nat → Bool} {k : Nat} (h : q k = false) : ∀ n, k < n → alN q n = false
  | 0, h0 => by omega
  | n + 1, h0 => by
    show (alN q n && q n) = false
    by_cases he : k = n
    · rw [← he, h, Bool.and_false]
    · rw [alN_no h n (by omega)]; rfl
end Go.Proofs.YtfhfiaphdgfmnaaDoor
