import Derived.Test.YtfgcpiipndhllaaDoorChos
import Derived.Test.YtfgcpiipndhllaaDoorPic
import Derived.Test.YtfgcpiipndhllaaDoorG1
namespace Go.Proofs.YtfgcpiipndhllaaDoor
open Go.RowKit
set_option maxRecDepth 100000
set_option linter.unusedVariables false
set_option linter.unusedSimpArgs false
end Go.Proofs.YtfgcpiipndhllaaDoor
