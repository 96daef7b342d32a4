import Derived.Test.YthkkbkpfomhdeaaOk
namespace Go.Proofs.Ythkkbkpfomhdeaa
open Go.RowKit
set_option maxRecDepth 100000
set_option linter.unusedVariables false
def validB (s : Sh) (x y : Nat) : Bool :=
  if hasB s x y then (if waxB s x y then bareB s x y else (dOk s x y 0 && (dOk s x y 1 && dOk s x y 2)) && wOk s x y) else bareB s x y && !waxB s x y
theorem idx_d3 (s : Sh) (x y k : Nat) (hk : k < 3) (w : World) : (Instr.index 23 (.agg #[.int .i16 (s.dye (24 * y + 3 * x)), .int .i16 (s.dye (24 * y + 3 * x + 1)), .int .i16 (s.dye (24 * y + 3 * x + 2))]) (.int .i64 k)).run Try.prog w = .ok (.int .i16 (s.dye (24 * y + 3 * x + k))) w := by
  have i0 : ∀ (a b c : Value) (w : World), (Instr.index 23 (.agg #[a, b, c]) (.int .i64 0)).run Try.prog w = .ok a w := fun _ _ _ _ => by kernel_rfl
  have i1 : ∀ (a b c : Value) (w : World), (Instr.index 23 (.agg #[a, b, c]) (.int .i64 1)).run Try.prog w = .ok b w := fun _ _ _ _ => by kernel_rfl
  have i2 : ∀ (a b c : Value) (w : World), (Instr.index 23 (.agg #[a, b, c]) (.int .i64 2)).run Try.prog w = .ok c w := fun _ _ _ _ => by kernel_rfl
  have : k = 0 ∨ k = 1 ∨ k = 2 := by omega
  rcases this with rfl | rfl | rfl
  · exact i0 _ _ _ w
  · exact i1 _ _ _ w
  · exact i2 _ _ _ w
end Go.Proofs.Ythkkbkpfomhdeaa
