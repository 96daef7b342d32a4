import Derived.Test.YtflmkhjleifbbaaDoorCodeOf
import Derived.Test.YtflmkhjleifbbaaDoorEqSheet
namespace Go.Proofs.YtflmkhjleifbbaaDoor
open Go.RowKit
set_option maxRecDepth 100000
set_option linter.unusedVariables false
end Go.Proofs.YtflmkhjleifbbaaDoor
