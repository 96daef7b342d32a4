import Derived.Deep.RegionHeld3
import Derived.Test.YtmcpaangofdmpaaDoorTurn
namespace Go.Proofs.YtmcpaangofdmpaaDoor
open Go.RowKit
set_option maxRecDepth 100000
set_option linter.unusedVariables false
set_option linter.unusedSimpArgs false
theorem drwT {w : World} {b : Nat} {x : Obj} (h : w.heap[b]? = some x) : w.drew.heap[b]? = some x := h
def prX (ax : Int) (d : Bool) (x : Int) : Int := if d then x else 2 * ax - 1 - x
def prY (ax : Int) (d : Bool) (y : Int) : Int := if d then 2 * ax - 1 - y else y
end Go.Proofs.YtmcpaangofdmpaaDoor
