import Derived.Test.YtdigbikldkkhpaaG1
import Derived.Test.YtdigbikldkkhpaaChecked
import Derived.LaidEql
import Derived.Stop.Asserts
import Derived.RowKitTokens
namespace Go.Proofs.Ytdigbikldkkhpaa
open Go.RowKit Go.Extern.Stop Go.Stop Go.Extern
set_option maxRecDepth 100000
set_option linter.unusedVariables false
/-- The five errors' values: e tells where each one lies. -/
structure ErrE where
  a : Nat → Addr
  t : Nat → TypeId
abbrev okK (k : Nat) : Bool := (1 ≤ k && k ≤ 5) || k == 7
end Go.Proofs.Ytdigbikldkkhpaa
