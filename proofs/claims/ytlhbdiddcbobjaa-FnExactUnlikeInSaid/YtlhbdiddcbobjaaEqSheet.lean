import Derived.Test.YtlhbdiddcbobjaaEqs
namespace Go.Proofs.Ytlhbdiddcbobjaa
open Go.RowKit
set_option maxRecDepth 100000
end Go.Proofs.Ytlhbdiddcbobjaa
