import Derived.Test.YthienbbecbakjaaDoorVE
namespace Go.Proofs.YthienbbecbakjaaDoor
open Go.RowKit
set_option maxRecDepth 100000
set_option linter.unusedVariables false
set_option linter.unusedSimpArgs false
/-- the inner cells of the inner cells, so many times: the model's and the program's -/
def insM (s : Sh) (f : Nat → Bool) : Nat → Nat → Bool
  | 0 => f
  | k + 1 => minn s (insM s f k) (allL (insM s f k))
def insP (s : Sh) (l : List Sp8) (g : Nat → Bool) : Nat → Nat → Bool
  | 0 => g
  | k + 1 => plA l (innP s (insP s l g k))
theorem ins_eq {s : Sh} {a c : Nat} (ea : s.wide = a) (ec : s.high = c) (ha : a ≤ 8) (hc : c ≤ 8) {f : Nat → Bool} (hf : inFree s f) : ∀ k, agr (insM s f k) (insP s (dryL s (cellsL a c)) f k) ∧ inFree s (insM s f k)
  | 0 => ⟨fun _ _ => rfl, hf⟩
  | k + 1 => by
    obtain ⟨h1, h2⟩ := ins_eq ea ec ha hc hf k
    have h3 : agr (insM s f (k + 1)) (insP s (dryL s (cellsL a c)) f (k + 1)) := inn_eq ea ec ha hc h2 h1
    exact ⟨h3, inFree_agr h3 (plA_free ea ec ha hc _)⟩
/-- whether a past of k + 1 steps is one -/
def pastM (s : Sh) (f : Nat → Bool) (k : Nat) : Bool := eqS (itM s (insM s f (k + 1)) (k + 1)) f
def pastP (s : Sh) (l : List Sp8) (f : Nat → Bool) (k : Nat) : Bool := eqS (sprI s l (insP s l f (k + 1)) (k + 1)) f
theorem past_eq {s : Sh} {a c : Nat} (hok : okI s = true) (ea : s.wide = a) (ec : s.high = c) (ha : a ≤ 8) (hc : c ≤ 8) {f : Nat → Bool} (hf : inFree s f) (k : Nat) : pastM s f k = pastP s (dryL s (cellsL a c)) f k := by
  obtain ⟨h1, h2⟩ := ins_eq (s := s) ea ec ha hc hf (k + 1)
  have h3 : agr (insM s f (k + 1)) (plA (dryL s (cellsL a c)) fun p => insP s (dryL s (cellsL a c)) f (k + 1) (pix p)) := fun i hi => (h1 i hi).trans (plA_again ha hc _ i hi)
  exact eqS_agr (it_eq hok ea ec ha hc h3 (k + 1)).1 (fun _ _ => rfl)
/-- the first number at which a test fails, from k on, so many at most -/
def upTo (t : Nat → Bool) : Nat → Nat → Nat
  | 0, k => k
  | m + 1, k => if t k then upTo t m (k + 1) else k
theorem upTo_no {t : Nat → Bool} {m k : Nat} (h : t k = false) : upTo t (m + 1) k = k := by
  show (if t k then upTo t m (k + 1) else k) = k
  rw [h]; rfl
theorem upTo_yes {t : Nat → Bool} {m k : Nat} (h : t k = true) : upTo t (m + 1) k = upTo t m (k + 1) := by
  show (if t k then upTo t m (k + 1) else k) = _
  rw [h]; rfl
theorem upTo_congr {t u : Nat → Bool} (h : ∀ k, t k = u k) : upTo t = upTo u := by rw [show t = u from funext h]
end Go.Proofs.YthienbbecbakjaaDoor
