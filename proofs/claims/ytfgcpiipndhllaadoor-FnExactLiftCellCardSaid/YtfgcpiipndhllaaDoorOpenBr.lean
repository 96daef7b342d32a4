import Derived.Test.YtfgcpiipndhllaaDoorOpen
import Derived.Test.YtfgcpiipndhllaaDoorBrush
namespace Go.Proofs.YtfgcpiipndhllaaDoor
open Go.RowKit
set_option maxRecDepth 100000
set_option linter.unusedVariables false
set_option linter.unusedSimpArgs false
open Go.ChangeShapes Go.WideShapes Go.ChangeAt
theorem wfb8 {n : Int} (h : (Lit.int .i8 n).wf = true) : -128 ≤ n ∧ n ≤ 127 := by simp [Lit.wf, IntKind.min, IntKind.max, IntKind.bits, IntKind.signed] at h; omega
theorem wfb16 {n : Int} (h : (Lit.int .i16 n).wf = true) : -32768 ≤ n ∧ n ≤ 32767 := by simp [Lit.wf, IntKind.min, IntKind.max, IntKind.bits, IntKind.signed] at h; omega
/-- A BRUSH THAT CAME IN. -/
theorem open_brush {H : Type} {enc : TypeId × Value → H} {W : World} {r : Reach} {b0 base : Nat} {spare : Nat → Bool} {held : Bool} {v : Value} {d : DataW H} {p : List MemPlace}
    (hv : Value.okWide Tryd.prog W r b0 47 v) (h : DataW.Trod enc Tryd.prog W base spare held 47 v d p) : ∃ b : Br, b.fit ∧ v = .agg b.row ∧ p = [] := by
  obtain ⟨cs, rfl, hsz⟩ := okWide_struct Tryd.underlying47 hv
  obtain ⟨fuel, hf⟩ := h
  obtain ⟨xs, n, rfl, hx, hl, hxl, hall⟩ := DataW.trod_struct Tryd.underlying47 hf
  have hC : Tryd.prog.cellsOf 47 = 5 := by kernel_rfl
  rw [hC] at hsz
  have key : ∀ (j off N : Nat) (kd : IntKind) (t : TypeId) (y : DataW H × List MemPlace), xs[j]? = some y → DataW.trod enc Tryd.prog W base spare held n t ((cs.toList.drop off).take N) = some y → Ints Tryd.prog kd N t → y.2 = [] ∧ ∀ i, i < N → ∃ z, cs[off + i]? = some (.int kd z) ∧ (Lit.int kd z).wf = true := by
    intro j off N kd t y _ hy hI
    obtain ⟨e1, _, e3⟩ := hI H enc W base spare held n _ _ hy
    refine ⟨e1, fun i hi => ?_⟩
    obtain ⟨z, hz, hw⟩ := e3 i hi
    rw [List.getElem?_take_of_lt hi, List.getElem?_drop] at hz
    exact ⟨z, by simpa using hz, hw⟩
  have a0 := hall 0 _ rfl
  have a1 := hall 1 _ rfl
  have a2 := hall 2 _ rfl
  have hxl3 : xs.length = 3 := hxl
  have get : ∀ j, j < 3 → ∃ y, xs[j]? = some y := fun j hj => ⟨_, List.getElem?_eq_getElem (by omega)⟩
  obtain ⟨y0, h0⟩ := get 0 (by omega)
  obtain ⟨y1, h1⟩ := get 1 (by omega)
  obtain ⟨y2, h2⟩ := get 2 (by omega)
  rw [h0] at a0; rw [h1] at a1; rw [h2] at a2
  have k0 := key 0 0 3 .i16 _ y0 h0 (by simpa [show Tryd.prog.cellsOf 26 = 3 by kernel_rfl, Value.cells] using a0) ints_d3
  have k1 := key 1 3 1 .i16 _ y1 h1 (by simpa [c23, Value.cells] using a1) (Ints.one Tryd.underlying23)
  have k2 := key 2 4 1 .i8 _ y2 h2 (by simpa [c22, Value.cells] using a2) (Ints.one Tryd.underlying22)
  have num : ∀ i, ∀ {kd : IntKind} {z : Int}, cs[i]? = some (.int kd z) → cs.getD i undef = .int kd z := fun i kd z h => by simp [Array.getD_eq_getD_getElem?, h]
  refine ⟨⟨fun i => intOf (cs.getD (0 + i) undef), intOf (cs.getD 3 undef), intOf (cs.getD 4 undef)⟩, ⟨?_, ?_, ?_⟩, ?_, ?_⟩
  · intro i hi; obtain ⟨z, hz, hw⟩ := k0.2 i hi; show -32768 ≤ intOf (cs.getD (0 + i) undef) ∧ intOf (cs.getD (0 + i) undef) ≤ 32767; rw [num _ hz]; exact wfb16 hw
  · obtain ⟨z, hz, hw⟩ := k1.2 0 (by omega); show -32768 ≤ intOf (cs.getD 3 undef) ∧ intOf (cs.getD 3 undef) ≤ 32767; rw [num 3 hz]; exact wfb16 hw
  · obtain ⟨z, hz, hw⟩ := k2.2 0 (by omega); show -128 ≤ intOf (cs.getD 4 undef) ∧ intOf (cs.getD 4 undef) ≤ 127; rw [num 4 hz]; exact wfb8 hw
  · congr 1
    apply Array.ext_getElem?
    intro i
    by_cases hi : i < 5
    · rw [vrow_get _ _ _ hi]
      unfold Br.at
      by_cases c0 : i < 3
      · obtain ⟨z, hz, _⟩ := k0.2 i c0
        rw [Nat.zero_add] at hz
        rw [if_pos c0]; dsimp only; rw [Nat.zero_add, num i hz]; exact hz
      · rw [if_neg c0]
        by_cases c1 : i = 3
        · subst c1; obtain ⟨z, hz, _⟩ := k1.2 0 (by omega); rw [if_pos rfl, num 3 hz]; exact hz
        · obtain rfl : i = 4 := by omega
          obtain ⟨z, hz, _⟩ := k2.2 0 (by omega); rw [if_neg c1, num 4 hz]; exact hz
    · rw [vrow_none _ _ _ hi]; exact Array.getElem?_eq_none (by omega)
  · simp only [Prod.mk.injEq] at hx
    rw [hx.2]
    match xs, hxl3, h0, h1, h2 with
    | [z0, z1, z2], _, h0, h1, h2 =>
      simp at h0 h1 h2
      subst h0 h1 h2
      simp [k0.1, k1.1, k2.1]
end Go.Proofs.YtfgcpiipndhllaaDoor
