import Derived.Test.YtfhfiaphdgfmnaaXLib
namespace Go.Proofs.Ytfhfiaphdgfmnaa
open Go.RowKit
set_option maxRecDepth 100000
set_option linter.unusedVariables false
set_option linter.unusedSimpArgs false
/-- the goal is a list that begins with the operation of slot d -/
theorem wlAt (d : Nat) {P : Program} {ops : Array Oper} {Q : Exit → Act → World → Prop} {l : List Oper} {o : Oper} {a : Act} {w : World} (_ : o.dst = some d) (h : wpList P ops Q (o :: l) a w) : wpList P ops Q (o :: l) a w := h
/-- the goal is a list that begins with this operation -/
theorem wlOp (p : Op) {P : Program} {ops : Array Oper} {Q : Exit → Act → World → Prop} {l : List Oper} {o : Oper} {a : Act} {w : World} (_ : o.op = p) (h : wpList P ops Q (o :: l) a w) : wpList P ops Q (o :: l) a w := h
end Go.Proofs.Ytfhfiaphdgfmnaa
