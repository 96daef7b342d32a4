import Derived.Test.YtlhbdiddcbobjaaDoorDyeL
import Derived.Test.YtlhbdiddcbobjaaDoorCodeOf
import Derived.Test.YtlhbdiddcbobjaaDoorG1
namespace Go.Proofs.YtlhbdiddcbobjaaDoor
open Go.RowKit
set_option maxRecDepth 100000
set_option linter.unusedVariables false
end Go.Proofs.YtlhbdiddcbobjaaDoor
