import Derived.Test.YthkkbkpfomhdeaaSmall
namespace Go.Proofs.Ythkkbkpfomhdeaa
open Go.RowKit
set_option maxRecDepth 100000
set_option linter.unusedVariables false
/-- the sheet's numbers fit their kinds -/
structure Sh.fit (s : Sh) : Prop where
  wide : -128 ≤ s.wide ∧ s.wide ≤ 127
  high : -128 ≤ s.high ∧ s.high ≤ 127
  wet : ∀ i, i < 64 → -32768 ≤ s.wet i ∧ s.wet i ≤ 32767
  dye : ∀ i, i < 192 → -32768 ≤ s.dye i ∧ s.dye i ≤ 32767
  wax : ∀ i, i < 8 → 0 ≤ s.wax i ∧ s.wax i ≤ 255
end Go.Proofs.Ythkkbkpfomhdeaa
