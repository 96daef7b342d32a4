import Derived.Test.YthienbbecbakjaaDoorEqs
namespace Go.Proofs.YthienbbecbakjaaDoor
open Go.RowKit
set_option maxRecDepth 100000
end Go.Proofs.YthienbbecbakjaaDoor
