import Derived.Test.YthienbbecbakjaaDoorReaders2
namespace Go.Proofs.YthienbbecbakjaaDoor
open Go.RowKit
set_option maxRecDepth 100000
set_option linter.unusedVariables false
def inkB (k : Int) : Bool := decide (0 ≤ k) && decide (k ≤ 2)
end Go.Proofs.YthienbbecbakjaaDoor
