import Derived.Test.YtlgeemlbilngaaaDoorCodeOf
import Derived.Test.YtlgeemlbilngaaaDoorEqSheet
namespace Go.Proofs.YtlgeemlbilngaaaDoor
open Go.RowKit
set_option maxRecDepth 100000
set_option linter.unusedVariables false
end Go.Proofs.YtlgeemlbilngaaaDoor
