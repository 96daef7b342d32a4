import Derived.Test.YtdigbikldkkhpaaCodeOf
import Derived.Test.YtdigbikldkkhpaaEqSheet
namespace Go.Proofs.Ytdigbikldkkhpaa
open Go.RowKit
set_option maxRecDepth 100000
set_option linter.unusedVariables false
end Go.Proofs.Ytdigbikldkkhpaa
