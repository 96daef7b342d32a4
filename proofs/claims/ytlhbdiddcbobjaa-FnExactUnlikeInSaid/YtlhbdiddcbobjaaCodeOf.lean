import Derived.Test.YtlhbdiddcbobjaaErr
import Derived.Test.YtlhbdiddcbobjaaImplV
import Derived.Test.YtlhbdiddcbobjaaOkEq
namespace Go.Proofs.Ytlhbdiddcbobjaa
open Go.RowKit
set_option maxRecDepth 100000
set_option linter.unusedVariables false
set_option linter.unusedSimpArgs false
end Go.Proofs.Ytlhbdiddcbobjaa
