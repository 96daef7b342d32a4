import Derived.Test.YtmcpaangofdmpaaDoorOpen
namespace Go.Proofs.YtmcpaangofdmpaaDoor
open Go.ChangeShapes Go.WideShapes Go.ChangeAt Go.RowKit
set_option maxRecDepth 100000
end Go.Proofs.YtmcpaangofdmpaaDoor
