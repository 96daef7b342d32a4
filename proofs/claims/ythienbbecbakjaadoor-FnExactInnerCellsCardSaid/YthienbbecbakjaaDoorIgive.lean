import Derived.Deep.RegionHeld3
import Derived.Test.YthienbbecbakjaaDoorGive
import Derived.Test.YthienbbecbakjaaDoorArrBase
namespace Go.Proofs.YthienbbecbakjaaDoor
open Go.RowKit
set_option maxRecDepth 100000
set_option linter.unusedVariables false
set_option linter.unusedSimpArgs false
set_option linter.unusedSimpArgs false
theorem giveInks_from (T : Sh) (x y u v : Nat) (wt : Int) (hx : x < 8) (hu : u < 8) (hne : 8 * y + x ≠ 8 * v + u) : ∀ k j, k ≤ j → j < 3 → (giveInks T x y u v wt k).dye (24 * y + 3 * x + j) = T.dye (24 * y + 3 * x + j)
  | 0, _, _, _ => rfl
  | k + 1, j, h, hj => by
    have ih := giveInks_from T x y u v wt hx hu hne k j (by omega) hj
    show (if 24 * y + 3 * x + j = 24 * v + 3 * u + k then _ else if 24 * y + 3 * x + j = 24 * y + 3 * x + k then _ else (giveInks T x y u v wt k).dye (24 * y + 3 * x + j)) = _
    rw [if_neg (by omega), if_neg (by omega), ih]
theorem idx3 (f : Nat → Int) (k : Nat) (hk : k < 3) (w : World) : (Instr.index 26 (.agg (vrow 3 fun i => .int .i16 (f i))) (.int .i64 k)).run Tryd.prog w = .ok (.int .i16 (f k)) w := by
  have i0 : ∀ (a b c : Value) (w : World), (Instr.index 26 (.agg #[a, b, c]) (.int .i64 0)).run Tryd.prog w = .ok a w := fun _ _ _ _ => by kernel_rfl
  have i1 : ∀ (a b c : Value) (w : World), (Instr.index 26 (.agg #[a, b, c]) (.int .i64 1)).run Tryd.prog w = .ok b w := fun _ _ _ _ => by kernel_rfl
  have i2 : ∀ (a b c : Value) (w : World), (Instr.index 26 (.agg #[a, b, c]) (.int .i64 2)).run Tryd.prog w = .ok c w := fun _ _ _ _ => by kernel_rfl
  have : k = 0 ∨ k = 1 ∨ k = 2 := by omega
  rcases this with rfl | rfl | rfl
  · exact i0 _ _ _ w
  · exact i1 _ _ _ w
  · exact i2 _ _ _ w
end Go.Proofs.YthienbbecbakjaaDoor
