import Derived.Test.YtmcpaangofdmpaaDoorCodeOf
import Derived.Test.YtmcpaangofdmpaaDoorEqSheet
namespace Go.Proofs.YtmcpaangofdmpaaDoor
open Go.RowKit
set_option maxRecDepth 100000
set_option linter.unusedVariables false
end Go.Proofs.YtmcpaangofdmpaaDoor
