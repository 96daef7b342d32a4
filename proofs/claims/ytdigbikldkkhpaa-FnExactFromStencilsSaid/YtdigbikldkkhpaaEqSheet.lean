import Derived.Test.YtdigbikldkkhpaaEqs
namespace Go.Proofs.Ytdigbikldkkhpaa
open Go.RowKit
set_option maxRecDepth 100000
end Go.Proofs.Ytdigbikldkkhpaa
