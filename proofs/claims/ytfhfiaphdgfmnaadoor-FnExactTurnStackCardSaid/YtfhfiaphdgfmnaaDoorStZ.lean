import Derived.Test.YtfhfiaphdgfmnaaDoorStE
namespace Go.Proofs.YtfhfiaphdgfmnaaDoor
open Go.RowKit
set_option maxRecDepth 100000
set_option linter.unusedVariables false
set_option linter.unusedSimpArgs false
theorem szS_yes (ao : Option Addr) (n cap : Nat) (l : Int) (hn : n ≤ 9223372036854775807) (hl : 0 ≤ l ∧ l ≤ 1048576) (h : (n : Int) ≤ l) (w : World) : Calls Tryd.prog 11 #[.slice ao n cap, .int .i64 l] w fun e w' => e = .returned (.int .i64 (l - (n : Int))) ∧ Below w.heap.size w w' := by
  have g := szK_any ao n cap l hn hl w
  rwa [if_pos h] at g
theorem szS_no (ao : Option Addr) (n cap : Nat) (l : Int) (hn : n ≤ 9223372036854775807) (hl : 0 ≤ l ∧ l ≤ 1048576) (h : ¬(n : Int) ≤ l) (w : World) : Calls Tryd.prog 11 #[.slice ao n cap, .int .i64 l] w fun e w' => e = .returned (.int .i64 (-1)) ∧ Below w.heap.size w w' := by
  have g := szK_any ao n cap l hn hl w
  rwa [if_neg h] at g
end Go.Proofs.YtfhfiaphdgfmnaaDoor
