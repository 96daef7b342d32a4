import Derived.Test.YtmhgdooiokonnaaDoorBest
import Derived.Test.YtmhgdooiokonnaaDoorReaders2
namespace Go.Proofs.YtmhgdooiokonnaaDoor
open Go.RowKit
set_option maxRecDepth 100000
set_option linter.unusedVariables false
set_option linter.unusedSimpArgs false
attribute [local go_sem] Oper.semAt_some
end Go.Proofs.YtmhgdooiokonnaaDoor
