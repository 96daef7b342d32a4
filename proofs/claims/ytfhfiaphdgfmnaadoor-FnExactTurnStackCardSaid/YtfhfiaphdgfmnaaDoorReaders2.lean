import Derived.Test.YtfhfiaphdgfmnaaDoorDark
namespace Go.Proofs.YtfhfiaphdgfmnaaDoor
open Go.RowKit
set_option maxRecDepth 100000
set_option linter.unusedVariables false
theorem dsum_dark (s : Sh) (x y : Nat) : dsum (fun i => s.dye (24 * y + 3 * x + i)) 3 = darkB s x y := by simp [dsum, darkB]
end Go.Proofs.YtfhfiaphdgfmnaaDoor
