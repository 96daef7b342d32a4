import Derived.Test.YtmhgdooiokonnaaDoorEqs
namespace Go.Proofs.YtmhgdooiokonnaaDoor
open Go.RowKit
set_option maxRecDepth 100000
end Go.Proofs.YtmhgdooiokonnaaDoor
