import Derived.Test.YtfgcpiipndhllaaDoorWater
namespace Go.Proofs.YtfgcpiipndhllaaDoor
open Go.RowKit
set_option maxRecDepth 100000
set_option linter.unusedVariables false
attribute [local go_sem] Oper.semAt_some
theorem wrap2 (p q : Int) (h1 : -4000000 ≤ p ∧ p ≤ 4000000) (h2 : -32768 ≤ q ∧ q ≤ 32767) : Value.int .i64 (IntKind.i64.wrap (p + IntKind.i64.wrap q)) = Value.int .i64 (p + q) := by rw [IntWalk.i64_in q (by omega), IntWalk.i64_in (p + q) (by omega)]
end Go.Proofs.YtfgcpiipndhllaaDoor
