import Derived.Test.YtflmkhjleifbbaaDoorReaders2
namespace Go.Proofs.YtflmkhjleifbbaaDoor
open Go.RowKit
set_option maxRecDepth 100000
set_option linter.unusedVariables false
def inkB (k : Int) : Bool := decide (0 ≤ k) && decide (k ≤ 2)
end Go.Proofs.YtflmkhjleifbbaaDoor
