import Derived.Test.YtlbafaedmagmfaaDoorEqs
namespace Go.Proofs.YtlbafaedmagmfaaDoor
open Go.RowKit
set_option maxRecDepth 100000
end Go.Proofs.YtlbafaedmagmfaaDoor
