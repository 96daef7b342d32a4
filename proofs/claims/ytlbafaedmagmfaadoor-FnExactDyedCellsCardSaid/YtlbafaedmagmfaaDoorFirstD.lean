import Derived.Test.YtlbafaedmagmfaaDoorBest
import Derived.Test.YtlbafaedmagmfaaDoorReaders2
namespace Go.Proofs.YtlbafaedmagmfaaDoor
open Go.RowKit
set_option maxRecDepth 100000
set_option linter.unusedVariables false
set_option linter.unusedSimpArgs false
attribute [local go_sem] Oper.semAt_some
end Go.Proofs.YtlbafaedmagmfaaDoor
