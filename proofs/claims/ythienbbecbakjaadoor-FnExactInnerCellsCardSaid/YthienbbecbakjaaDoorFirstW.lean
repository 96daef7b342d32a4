import Derived.Deep.RegionHeld3
import Derived.Test.YthienbbecbakjaaDoorBest
import Derived.Test.YthienbbecbakjaaDoorSpots
namespace Go.Proofs.YthienbbecbakjaaDoor
open Go.RowKit
set_option maxRecDepth 100000
set_option linter.unusedVariables false
set_option linter.unusedSimpArgs false
set_option linter.unusedSimpArgs false
def wetF (s : Sh) (x y : Nat) : Int := s.wet (8 * y + x)
attribute [local go_sem] Oper.semAt_some
end Go.Proofs.YthienbbecbakjaaDoor
