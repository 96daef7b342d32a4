import Derived.Test.YtlhbdiddcbobjaaCodeOf
import Derived.Test.YtlhbdiddcbobjaaEqSheet
namespace Go.Proofs.Ytlhbdiddcbobjaa
open Go.RowKit
set_option maxRecDepth 100000
set_option linter.unusedVariables false
end Go.Proofs.Ytlhbdiddcbobjaa
