import Derived.Deep.RegionHeld3
import Derived.Test.YthienbbecbakjaaDoorFirstW
import Derived.Test.YthienbbecbakjaaDoorClos
import Derived.Test.YthienbbecbakjaaDoorBeside
import Derived.Test.YthienbbecbakjaaDoorGdB
namespace Go.Proofs.YthienbbecbakjaaDoor
open Go.RowKit
set_option maxRecDepth 100000
set_option linter.unusedVariables false
set_option linter.unusedSimpArgs false
set_option linter.unusedSimpArgs false
theorem drew_row {w : World} {b : Nat} {x : Obj} (h : w.heap[b]? = some x) : w.drew.heap[b]? = some x := h
/-- what goes of an ink -/
def partOf (T : Sh) (x y u v : Nat) (wt : Int) (k : Nat) : Int := min ((T.dye (24 * y + 3 * x + k)).tdiv wt) (1000 - T.dye (24 * v + 3 * u + k))
/-- one ink has gone -/
def giveInk (T : Sh) (x y u v : Nat) (wt : Int) (k : Nat) : Sh := (T.setDye (24 * y + 3 * x + k) (T.dye (24 * y + 3 * x + k) - partOf T x y u v wt k)).setDye (24 * v + 3 * u + k) (T.dye (24 * v + 3 * u + k) + partOf T x y u v wt k)
def giveInks (T : Sh) (x y u v : Nat) (wt : Int) : Nat → Sh
  | 0 => T
  | k + 1 => giveInk (giveInks T x y u v wt k) x y u v wt k
/-- a unit has gone -/
def giveS (T : Sh) (x y u v : Nat) : Sh :=
  let G := giveInks T x y u v (T.wet (8 * y + x)) 3
  (G.setWet (8 * y + x) (T.wet (8 * y + x) - 1)).setWet (8 * v + u) (T.wet (8 * v + u) + 1)
theorem giveInks_wet (T : Sh) (x y u v : Nat) (wt : Int) (i : Nat) : ∀ k, (giveInks T x y u v wt k).wet i = T.wet i
  | 0 => rfl
  | k + 1 => giveInks_wet T x y u v wt i k
theorem part_bd {T : Sh} {x y u v : Nat} {wt : Int} {k : Nat} (h : InkOk T) (hw : 1 ≤ wt) : 0 ≤ partOf T x y u v wt k ∧ partOf T x y u v wt k ≤ T.dye (24 * y + 3 * x + k) ∧ partOf T x y u v wt k ≤ 1000 - T.dye (24 * v + 3 * u + k) ∧ 0 ≤ (T.dye (24 * y + 3 * x + k)).tdiv wt ∧ (T.dye (24 * y + 3 * x + k)).tdiv wt ≤ 1000 := by
  have h1 := h (24 * y + 3 * x + k)
  have h2 := h (24 * v + 3 * u + k)
  have e : (T.dye (24 * y + 3 * x + k)).tdiv wt = T.dye (24 * y + 3 * x + k) / wt := Int.tdiv_eq_ediv_of_nonneg h1.1
  have h3 : 0 ≤ T.dye (24 * y + 3 * x + k) / wt := Int.ediv_nonneg h1.1 (by omega)
  have h4 : T.dye (24 * y + 3 * x + k) / wt ≤ T.dye (24 * y + 3 * x + k) := Int.ediv_le_self _ h1.1
  unfold partOf
  rw [e]
  omega
theorem giveInk_ok {T : Sh} {x y u v : Nat} {wt : Int} {k : Nat} (h : InkOk T) (hw : 1 ≤ wt) : InkOk (giveInk T x y u v wt k) := by
  intro i
  obtain ⟨h1, h2, h3, _⟩ := part_bd (x := x) (y := y) (u := u) (v := v) (k := k) h hw
  have h4 := h (24 * y + 3 * x + k)
  have h5 := h (24 * v + 3 * u + k)
  have h6 := h i
  show 0 ≤ (if i = 24 * v + 3 * u + k then _ else if i = 24 * y + 3 * x + k then _ else T.dye i) ∧ (if i = 24 * v + 3 * u + k then _ else if i = 24 * y + 3 * x + k then _ else T.dye i) ≤ 1000
  by_cases c : i = 24 * v + 3 * u + k
  · rw [if_pos c]; omega
  · rw [if_neg c]
    by_cases c2 : i = 24 * y + 3 * x + k
    · rw [if_pos c2]; omega
    · rw [if_neg c2]; exact h6
theorem giveInks_ok {T : Sh} {x y u v : Nat} {wt : Int} (h : InkOk T) (hw : 1 ≤ wt) : ∀ k, InkOk (giveInks T x y u v wt k)
  | 0 => h
  | k + 1 => giveInk_ok (giveInks_ok h hw k) hw
end Go.Proofs.YthienbbecbakjaaDoor
