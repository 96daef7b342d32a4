import Derived.StillTail
import Derived.StillTailTactics
import Derived.Deep.RegionHeld3
import Derived.Test.YtfhfiaphdgfmnaaPathS
namespace Go.Proofs.Ytfhfiaphdgfmnaa
open Go.RowKit
set_option maxRecDepth 100000
set_option linter.unusedVariables false
set_option linter.unusedSimpArgs false
theorem drwP {w : World} {b : Nat} {x : Obj} (h : w.heap[b]? = some x) : w.drew.heap[b]? = some x := h
end Go.Proofs.Ytfhfiaphdgfmnaa
