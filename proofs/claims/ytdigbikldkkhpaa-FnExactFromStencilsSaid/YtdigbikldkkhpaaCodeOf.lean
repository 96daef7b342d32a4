import Derived.Test.YtdigbikldkkhpaaErr
import Derived.Test.YtdigbikldkkhpaaImplV
import Derived.Test.YtdigbikldkkhpaaOkEq
namespace Go.Proofs.Ytdigbikldkkhpaa
open Go.RowKit
set_option maxRecDepth 100000
set_option linter.unusedVariables false
set_option linter.unusedSimpArgs false
end Go.Proofs.Ytdigbikldkkhpaa
