import Derived.Test.YtflmkhjleifbbaaDoorEqs
namespace Go.Proofs.YtflmkhjleifbbaaDoor
open Go.RowKit
set_option maxRecDepth 100000
end Go.Proofs.YtflmkhjleifbbaaDoor
