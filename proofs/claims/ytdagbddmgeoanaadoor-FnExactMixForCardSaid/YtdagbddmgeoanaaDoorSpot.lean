import Derived.Test.YtdagbddmgeoanaaDoorOpen
namespace Go.Proofs.YtdagbddmgeoanaaDoor
open Go.ChangeShapes Go.WideShapes Go.ChangeAt Go.RowKit
set_option maxRecDepth 100000
end Go.Proofs.YtdagbddmgeoanaaDoor
