import Derived.Test.YtfhfiaphdgfmnaaDoorImplV
import Derived.Test.YtfhfiaphdgfmnaaDoorOpen
namespace Go.Proofs.YtfhfiaphdgfmnaaDoor
open Go.RowKit
set_option maxRecDepth 100000
set_option linter.unusedVariables false
theorem place_eq (s : Sh) (x y : Nat) (hf : s.fit) (hx : x < 8) (hy : y < 8) : placeB s x y = validB s x y := by
  have hw := hf.wet (8 * y + x) (by omega)
  have h0 := hf.dye (24 * y + 3 * x) (by omega)
  have h1 := hf.dye (24 * y + 3 * x + 1) (by omega)
  have h2 := hf.dye (24 * y + 3 * x + 2) (by omega)
  cases e1 : hasB s x y <;> cases e2 : waxB s x y <;> simp only [placeB, validB, cellB, e1, e2, bareB, wOk, dOk, psum, Bool.not_true, Bool.not_false, Bool.true_and, Bool.false_and, Bool.and_true, Bool.and_false, Bool.or_true, Bool.or_false, if_true, Bool.false_eq_true, if_false, Nat.add_zero]
  all_goals (rw [Bool.eq_iff_iff]; simp only [Bool.and_eq_true, decide_eq_true_eq, beq_iff_eq]; omega)
theorem ok_eq (s : Sh) (hf : s.fit) : okI s = okB s := by
  rw [Bool.eq_iff_iff]
  simp only [okI, okB, Bool.and_eq_true, List.all_eq_true]
  constructor
  · rintro ⟨a, b, h⟩
    refine ⟨a, b, fun i hi => ?_⟩
    have hi' : i < 64 := by simpa using hi
    have := h ⟨(i % 8, i / 8), by omega, by omega⟩ (mem_cells _)
    rw [place_eq s _ _ hf (by omega) (by omega)]
    exact this
  · rintro ⟨a, b, h⟩
    refine ⟨a, b, fun p _ => ?_⟩
    obtain ⟨⟨x, y⟩, hx, hy⟩ := p
    have := h (8 * y + x) (by simp; omega)
    rw [show (8 * y + x) % 8 = x by omega, show (8 * y + x) / 8 = y by omega, place_eq s _ _ hf hx hy] at this
    exact this
theorem wf_i8 {n : Int} (h : (Lit.int .i8 n).wf = true) : -128 ≤ n ∧ n ≤ 127 := by simp [Lit.wf, IntKind.min, IntKind.max, IntKind.bits, IntKind.signed] at h; omega
theorem wf_i16 {n : Int} (h : (Lit.int .i16 n).wf = true) : -32768 ≤ n ∧ n ≤ 32767 := by simp [Lit.wf, IntKind.min, IntKind.max, IntKind.bits, IntKind.signed] at h; omega
theorem wf_u8 {n : Int} (h : (Lit.int .u8 n).wf = true) : 0 ≤ n ∧ n ≤ 255 := by simp [Lit.wf, IntKind.min, IntKind.max, IntKind.bits, IntKind.signed] at h; omega
theorem Sh.wf.fit {s : Sh} (h : s.wf) : s.fit := ⟨wf_i8 h.1, wf_i8 h.2.1, fun i hi => wf_i16 (h.2.2.1 i hi), fun i hi => wf_i16 (h.2.2.2.1 i hi), fun i hi => wf_u8 (h.2.2.2.2 i hi)⟩
theorem rw_lsheet : (Tryd.prog.underlying 32).map (·.isRow) = some true := by kernel_rfl
end Go.Proofs.YtfhfiaphdgfmnaaDoor
