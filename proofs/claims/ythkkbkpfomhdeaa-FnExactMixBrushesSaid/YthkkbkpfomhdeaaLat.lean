import Derived.Deep.RegionHeld3
import Derived.Test.YthkkbkpfomhdeaaXLib
namespace Go.Proofs.Ythkkbkpfomhdeaa
open Go.RowKit
set_option maxRecDepth 100000
set_option linter.unusedVariables false
set_option linter.unusedSimpArgs false
theorem region_gen {P : Program} {Q : Exit → Act → World → Prop} {id : Nat} {ops : Array Oper} {a : Act} {w : World} (h : ∀ O, O = ops → (Code.region id O true).wp P Q a w) : (Code.region id ops true).wp P Q a w := h ops rfl
theorem wpAnyH_at {P : Program} {md : Region.Mode} {ops : Array Oper} {Q : Exit → Act → World → Prop} {S : World → Prop} {fuel : Nat} {listed : Array Bool} {a : Act} {w : World} (n : Nat) (l : Array Bool) (hn : fuel = n) (hl : listed = l) (h : wpAnyH P md ops Q S n l a w) : wpAnyH P md ops Q S fuel listed a w := by
  subst hn hl; exact h
theorem vrow_all0 (n : Nat) (f : Nat → Value) : vrow n (fun i => f (0 + i)) = vrow n f := vrow_ext _ _ _ fun i _ => by rw [Nat.zero_add]
end Go.Proofs.Ythkkbkpfomhdeaa
