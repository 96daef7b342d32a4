import Derived.Test.YtflmkhjleifbbaaDoorOpen
namespace Go.Proofs.YtflmkhjleifbbaaDoor
open Go.ChangeShapes Go.WideShapes Go.ChangeAt Go.RowKit
set_option maxRecDepth 100000
end Go.Proofs.YtflmkhjleifbbaaDoor
