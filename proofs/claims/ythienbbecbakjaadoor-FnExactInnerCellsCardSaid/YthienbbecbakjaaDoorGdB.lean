import Derived.Test.YthienbbecbakjaaDoorDark
import Derived.Test.YthienbbecbakjaaDoorImplV
import Derived.Test.YthienbbecbakjaaDoorG1
namespace Go.Proofs.YthienbbecbakjaaDoor
open Go.RowKit
set_option maxRecDepth 100000
set_option linter.unusedVariables false
set_option linter.unusedSimpArgs false
def InkOk (T : Sh) : Prop := ∀ i, 0 ≤ T.dye i ∧ T.dye i ≤ 1000
def Sh.norm (s : Sh) : Sh := { s with dye := fun i => if i < 192 then s.dye i else 0 }
theorem norm_row (s : Sh) : s.norm.row = s.row := vrow_ext _ _ _ fun i hi => by
  unfold Sh.at Sh.norm
  simp only []
  by_cases h0 : i = 0
  · rw [if_pos h0, if_pos h0]
  rw [if_neg h0, if_neg h0]
  by_cases h1 : i = 1
  · rw [if_pos h1, if_pos h1]
  rw [if_neg h1, if_neg h1]
  by_cases h2 : i < 66
  · rw [if_pos h2, if_pos h2]
  rw [if_neg h2, if_neg h2]
  by_cases h3 : i < 258
  · rw [if_pos h3, if_pos h3, if_pos (by omega)]
  rw [if_neg h3, if_neg h3]
theorem norm_fit {s : Sh} (h : s.fit) : s.norm.fit := ⟨h.wide, h.high, h.wet, fun i hi => by
  show -32768 ≤ (if i < 192 then s.dye i else 0) ∧ (if i < 192 then s.dye i else 0) ≤ 32767
  rw [if_pos hi]; exact h.dye i hi, h.wax⟩
theorem inkOk_norm {s : Sh} (hv : okI s.norm = true) : InkOk s.norm := by
  intro i
  by_cases hi : i < 192
  · obtain ⟨_, h0, h1, h2⟩ := ok_bounds _ hv ((i % 24) / 3) (i / 24) (by omega) (by omega)
    have hk : i % 3 = 0 ∨ i % 3 = 1 ∨ i % 3 = 2 := by omega
    rcases hk with e | e | e
    · rw [show 24 * (i / 24) + 3 * ((i % 24) / 3) = i by omega] at h0; exact h0
    · rw [show 24 * (i / 24) + 3 * ((i % 24) / 3) + 1 = i by omega] at h1; exact h1
    · rw [show 24 * (i / 24) + 3 * ((i % 24) / 3) + 2 = i by omega] at h2; exact h2
  · show 0 ≤ (if i < 192 then s.dye i else 0) ∧ (if i < 192 then s.dye i else 0) ≤ 1000
    rw [if_neg hi]; omega
theorem okI_iff (s : Sh) : okI s = true ↔ (1 ≤ s.wide ∧ s.wide ≤ 8 ∧ 1 ≤ s.high ∧ s.high ≤ 8) ∧ ∀ x y, x < 8 → y < 8 → validB s x y = true := by
  simp only [okI, Bool.and_eq_true, decide_eq_true_eq, List.all_eq_true]
  constructor
  · rintro ⟨⟨h1, h2⟩, ⟨h3, h4⟩, h5⟩
    exact ⟨⟨h1, h2, h3, h4⟩, fun x y hx hy => h5 ⟨(x, y), hx, hy⟩ (mem_cells _)⟩
  · rintro ⟨⟨h1, h2, h3, h4⟩, h5⟩
    exact ⟨⟨h1, h2⟩, ⟨h3, h4⟩, fun p _ => h5 p.1.1 p.1.2 p.2.1 p.2.2⟩
/-- a sheet behind some gifts from s -/
structure Gd (s T : Sh) : Prop where
  wax : T.wax = s.wax
  wide : T.wide = s.wide
  high : T.high = s.high
  ok : okI T = true
  ink : InkOk T
  fit : T.fit
theorem Gd.start {s : Sh} (ho : okI s = true) (hi : InkOk s) (hf : s.fit) : Gd s s := ⟨rfl, rfl, rfl, ho, hi, hf⟩
theorem row_spot (f : Nat → Value) (o : Nat) (p : Sp8) (h : f o = .int .i8 p.1.1 ∧ f (o + 1) = .int .i8 p.1.2) : vrow 2 (fun i => f (o + i)) = #[.int .i8 p.1.1, .int .i8 p.1.2] := vrow_ext 2 (fun i => f (o + i)) (spAt p.1.1 p.1.2) fun i hi => by
  have : i = 0 ∨ i = 1 := by omega
  rcases this with rfl | rfl
  · exact h.1
  · exact h.2
end Go.Proofs.YthienbbecbakjaaDoor
