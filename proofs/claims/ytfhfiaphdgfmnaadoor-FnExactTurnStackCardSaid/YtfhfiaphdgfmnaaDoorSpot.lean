import Derived.Test.YtfhfiaphdgfmnaaDoorOpen
namespace Go.Proofs.YtfhfiaphdgfmnaaDoor
open Go.ChangeShapes Go.WideShapes Go.ChangeAt Go.RowKit
set_option maxRecDepth 100000
end Go.Proofs.YtfhfiaphdgfmnaaDoor
