import Derived.Test.YtfgcpiipndhllaaDoorG1
namespace Go.Proofs.YtfgcpiipndhllaaDoor
open Go.RowKit
set_option maxRecDepth 100000
set_option linter.unusedVariables false
set_option linter.unusedSimpArgs false
/-- a row of flags -/
def offF (o : Nat → Bool) : Nat → Value := fun i => .bool (o i)
theorem offF_at (o : Nat → Bool) (k i : Nat) (h : k = i) : offF o k = .bool (o i) := by rw [h]; rfl
end Go.Proofs.YtfgcpiipndhllaaDoor
