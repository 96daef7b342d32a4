import Derived.Test.YtgeiaboddkloeaaEqs
namespace Go.Proofs.Ytgeiaboddkloeaa
open Go.RowKit
set_option maxRecDepth 100000
end Go.Proofs.Ytgeiaboddkloeaa
