import Derived.Deep.RegionHeld3
import Derived.Test.YtfgcpiipndhllaaDoorPSpots
import Derived.Test.YtfgcpiipndhllaaDoorChosP
import Derived.Test.YtfgcpiipndhllaaDoorPicV
import Derived.Test.YtfgcpiipndhllaaDoorPO
import Derived.Test.YtfgcpiipndhllaaDoorLdI
import Derived.Test.YtfgcpiipndhllaaDoorSame
import Derived.Test.YtfgcpiipndhllaaDoorSamePic
import Derived.Test.YtfgcpiipndhllaaDoorQT
import Derived.Test.YtfgcpiipndhllaaDoorApN
namespace Go.Proofs.YtfgcpiipndhllaaDoor
open Go.RowKit
set_option maxRecDepth 100000
set_option linter.unusedVariables false
set_option linter.unusedSimpArgs false
def unl (a b : Pic) (x y : Nat) : Bool := a.ink (8 * y + x) != b.ink (8 * y + x)
theorem okP_natU {p : Pic} (h : okP p = true) : ∃ a c : Nat, p.wide = a ∧ p.high = c ∧ (1 ≤ a ∧ a ≤ 8) ∧ (1 ≤ c ∧ c ≤ 8) := by
  obtain ⟨h1, h2, h3, h4⟩ := okP_size h
  exact ⟨p.wide.toNat, p.high.toNat, by omega, by omega, by omega, by omega⟩
end Go.Proofs.YtfgcpiipndhllaaDoor
