import Derived.Test.YtlgeemlbilngaaaDoorOpen
namespace Go.Proofs.YtlgeemlbilngaaaDoor
open Go.ChangeShapes Go.WideShapes Go.ChangeAt Go.RowKit
set_option maxRecDepth 100000
end Go.Proofs.YtlgeemlbilngaaaDoor
