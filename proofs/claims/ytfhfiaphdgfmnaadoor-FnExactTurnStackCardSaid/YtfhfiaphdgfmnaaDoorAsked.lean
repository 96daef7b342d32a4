import Derived.Test.YtfhfiaphdgfmnaaDoorCodeOf
import Derived.Test.YtfhfiaphdgfmnaaDoorEqSheet
namespace Go.Proofs.YtfhfiaphdgfmnaaDoor
open Go.RowKit
set_option maxRecDepth 100000
set_option linter.unusedVariables false
end Go.Proofs.YtfhfiaphdgfmnaaDoor
