import Derived.Deep.RegionHeld3
import Derived.Test.YtfhfiaphdgfmnaaDoorAsked
namespace Go.Proofs.YtfhfiaphdgfmnaaDoor
open Go.RowKit
set_option maxRecDepth 100000
set_option linter.unusedVariables false
theorem ok_has (s : Sh) (hv : okI s = true) (x y : Int) (hh : hasB s x y = true) : ∃ i j : Nat, x = i ∧ y = j ∧ i < 8 ∧ j < 8 := by
  simp only [okI, hasB, Bool.and_eq_true, decide_eq_true_eq] at hv hh
  exact ⟨x.toNat, y.toNat, by omega, by omega, by omega, by omega⟩
theorem ok_bounds (s : Sh) (hv : okI s = true) (x y : Nat) (hx : x < 8) (hy : y < 8) : (0 ≤ s.wet (8 * y + x) ∧ s.wet (8 * y + x) ≤ 200) ∧ (0 ≤ s.dye (24 * y + 3 * x) ∧ s.dye (24 * y + 3 * x) ≤ 1000) ∧ (0 ≤ s.dye (24 * y + 3 * x + 1) ∧ s.dye (24 * y + 3 * x + 1) ≤ 1000) ∧ (0 ≤ s.dye (24 * y + 3 * x + 2) ∧ s.dye (24 * y + 3 * x + 2) ≤ 1000) := by
  simp only [okI, Bool.and_eq_true, List.all_eq_true] at hv
  have h : validB s x y = true := hv.2.2 ⟨(x, y), hx, hy⟩ (mem_cells _)
  unfold validB at h
  split at h
  · split at h
    · simp [bareB] at h; omega
    · simp [dOk, wOk] at h; omega
  · simp [bareB] at h; omega
def darkB (s : Sh) (x y : Nat) : Int := s.dye (24 * y + 3 * x) + s.dye (24 * y + 3 * x + 1) + s.dye (24 * y + 3 * x + 2)
/-- a row of three -/
def d3f (d : Nat → Int) (i : Nat) : Value := .int .i16 (d i)
theorem d3f_at (d : Nat → Int) (i : Nat) : d3f d i = .int .i16 (d i) := rfl
theorem d3f_row (d : Nat → Int) : vrow 3 (fun i => d3f d (0 + i)) = #[.int .i16 (d 0), .int .i16 (d 1), .int .i16 (d 2)] := rfl
theorem d3f_vrow (d : Nat → Int) : #[.int .i16 (d 0), .int .i16 (d 1), .int .i16 (d 2)] = vrow 3 (d3f d) := rfl
theorem idx_d (d : Nat → Int) (k : Nat) (hk : k < 3) (w : World) : (Instr.index 27 (.agg #[.int .i16 (d 0), .int .i16 (d 1), .int .i16 (d 2)]) (.int .i64 k)).run Tryd.prog w = .ok (.int .i16 (d k)) w := by
  have i0 : ∀ (a b c : Value) (w : World), (Instr.index 27 (.agg #[a, b, c]) (.int .i64 0)).run Tryd.prog w = .ok a w := fun _ _ _ _ => by kernel_rfl
  have i1 : ∀ (a b c : Value) (w : World), (Instr.index 27 (.agg #[a, b, c]) (.int .i64 1)).run Tryd.prog w = .ok b w := fun _ _ _ _ => by kernel_rfl
  have i2 : ∀ (a b c : Value) (w : World), (Instr.index 27 (.agg #[a, b, c]) (.int .i64 2)).run Tryd.prog w = .ok c w := fun _ _ _ _ => by kernel_rfl
  have : k = 0 ∨ k = 1 ∨ k = 2 := by omega
  rcases this with rfl | rfl | rfl
  · exact i0 _ _ _ w
  · exact i1 _ _ _ w
  · exact i2 _ _ _ w
def dsum (d : Nat → Int) : Nat → Int
  | 0 => 0
  | k + 1 => dsum d k + d k
theorem dsum_bd (d : Nat → Int) (hd : ∀ i, i < 3 → 0 ≤ d i ∧ d i ≤ 1000) : ∀ k, k ≤ 3 → 0 ≤ dsum d k ∧ dsum d k ≤ 1000 * k
  | 0, _ => by simp [dsum]
  | k + 1, hk => by
    have := dsum_bd d hd k (by omega)
    have := hd k (by omega)
    simp only [dsum]; omega
def d3s (s : Sh) (x y i : Nat) : Value := .int .i16 (s.dye (24 * y + 3 * x + i))
theorem d3s_0 (s : Sh) (x y : Nat) : d3s s x y 0 = .int .i16 (s.dye (24 * y + 3 * x)) := rfl
theorem d3s_1 (s : Sh) (x y : Nat) : d3s s x y 1 = .int .i16 (s.dye (24 * y + 3 * x + 1)) := rfl
theorem d3s_2 (s : Sh) (x y : Nat) : d3s s x y 2 = .int .i16 (s.dye (24 * y + 3 * x + 2)) := rfl
end Go.Proofs.YtfhfiaphdgfmnaaDoor
