import Derived.Test.YthkkbkpfomhdeaaQ
namespace Go.Proofs.Ythkkbkpfomhdeaa
open Go.RowKit
set_option maxRecDepth 100000
/-- the cell x, y is there -/
def hasB (s : Sh) (x y : Int) : Bool := decide (0 ≤ x) && (decide (x < s.wide) && (decide (0 ≤ y) && decide (y < s.high)))
def waxB (s : Sh) (x y : Nat) : Bool := bits BinOp.and IntKind.u8 (s.wax y / 2 ^ x) 1 == 1
def bareB (s : Sh) (x y : Nat) : Bool := (s.wet (8 * y + x) == 0) && ((s.dye (24 * y + 3 * x) == 0) && ((s.dye (24 * y + 3 * x + 1) == 0) && (s.dye (24 * y + 3 * x + 2) == 0)))
/-- a place is one of so many columns and rows -/
def insB (a c x y : Int) : Bool := decide (0 ≤ x) && (decide (x < a) && (decide (0 ≤ y) && decide (y < c)))
end Go.Proofs.Ythkkbkpfomhdeaa
