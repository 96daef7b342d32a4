import Derived.Test.YtlhbdiddcbobjaaDoorEqs
namespace Go.Proofs.YtlhbdiddcbobjaaDoor
open Go.RowKit
set_option maxRecDepth 100000
end Go.Proofs.YtlhbdiddcbobjaaDoor
