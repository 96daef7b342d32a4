import Derived.Deep.RegionHeld3
import Derived.Test.YtfhfiaphdgfmnaaPath
namespace Go.Proofs.Ytfhfiaphdgfmnaa
open Go.RowKit
set_option maxRecDepth 100000
set_option linter.unusedVariables false
set_option linter.unusedSimpArgs false
theorem zero_sp2 : ∀ w, (zeroValue 57).run Try.prog w = .ok (.agg (vrow 2 (spAt 0 0))) w := fun _ => by kernel_rfl
theorem spAt_one2 (x y : Int) (i : Nat) : (spAt x y i).oneCell' = true := by unfold spAt; split <;> rfl
end Go.Proofs.Ytfhfiaphdgfmnaa
