import Derived.Test.YtfgcpiipndhllaaDoorPic
import Derived.Test.YtfgcpiipndhllaaDoorOpen
namespace Go.Proofs.YtfgcpiipndhllaaDoor
open Go.ChangeShapes Go.WideShapes Go.ChangeAt Go.RowKit
set_option maxRecDepth 100000
/-- the numbers of a picture fit their kinds -/
structure Pic.fit (p : Pic) : Prop where
  wide : -128 ≤ p.wide ∧ p.wide ≤ 127
  high : -128 ≤ p.high ∧ p.high ≤ 127
  ink : ∀ i, i < 64 → 0 ≤ p.ink i ∧ p.ink i ≤ 255
theorem pwf_i8 {n : Int} (h : (Lit.int .i8 n).wf = true) : -128 ≤ n ∧ n ≤ 127 := by simp [Lit.wf, IntKind.min, IntKind.max, IntKind.bits, IntKind.signed] at h; omega
theorem pwf_u8 {n : Int} (h : (Lit.int .u8 n).wf = true) : 0 ≤ n ∧ n ≤ 255 := by simp [Lit.wf, IntKind.min, IntKind.max, IntKind.bits, IntKind.signed] at h; omega
theorem pc22 : Tryd.prog.cellsOf 22 = 1 := by kernel_rfl
theorem pc5 : Tryd.prog.cellsOf 5 = 1 := by kernel_rfl
theorem pints_x8 : Ints Tryd.prog .u8 8 29 := Ints.array Tryd.underlying29 pc5 (by kernel_rfl) (by omega) (Ints.one Tryd.underlying5)
theorem ints_b64 : Ints Tryd.prog .u8 64 56 := Ints.array Tryd.underlying56 (M := 8) (by kernel_rfl) (by kernel_rfl) (by omega) pints_x8
/-- A PICTURE THAT CAME IN. -/
theorem open_picture {H : Type} {enc : TypeId × Value → H} {W : World} {r : Reach} {b0 base : Nat} {spare : Nat → Bool} {held : Bool} {v : Value} {d : DataW H} {p : List MemPlace}
    (hv : Value.okWide Tryd.prog W r b0 58 v) (h : DataW.Trod enc Tryd.prog W base spare held 58 v d p) : ∃ s : Pic, s.fit ∧ v = .agg s.row ∧ p = [] := by
  obtain ⟨cs, rfl, hsz⟩ := okWide_struct Tryd.underlying58 hv
  obtain ⟨fuel, hf⟩ := h
  obtain ⟨xs, n, rfl, hx, hl, hxl, hall⟩ := DataW.trod_struct Tryd.underlying58 hf
  have hC : Tryd.prog.cellsOf 58 = 66 := by kernel_rfl
  rw [hC] at hsz
  have key : ∀ (j off N : Nat) (kd : IntKind) (t : TypeId) (y : DataW H × List MemPlace), xs[j]? = some y → DataW.trod enc Tryd.prog W base spare held n t ((cs.toList.drop off).take N) = some y → Ints Tryd.prog kd N t → y.2 = [] ∧ ∀ i, i < N → ∃ z, cs[off + i]? = some (.int kd z) ∧ (Lit.int kd z).wf = true := by
    intro j off N kd t y _ hy hI
    obtain ⟨e1, _, e3⟩ := hI H enc W base spare held n _ _ hy
    refine ⟨e1, fun i hi => ?_⟩
    obtain ⟨z, hz, hw⟩ := e3 i hi
    rw [List.getElem?_take_of_lt hi, List.getElem?_drop] at hz
    exact ⟨z, by simpa using hz, hw⟩
  have a0 := hall 0 _ rfl
  have a1 := hall 1 _ rfl
  have a2 := hall 2 _ rfl
  have hxl5 : xs.length = 3 := hxl
  have get : ∀ j, j < 3 → ∃ y, xs[j]? = some y := fun j hj => ⟨_, List.getElem?_eq_getElem (by omega)⟩
  obtain ⟨y0, h0⟩ := get 0 (by omega)
  obtain ⟨y1, h1⟩ := get 1 (by omega)
  obtain ⟨y2, h2⟩ := get 2 (by omega)
  rw [h0] at a0; rw [h1] at a1; rw [h2] at a2
  have k0 := key 0 0 1 .i8 _ y0 h0 (by simpa [pc22, Value.cells] using a0) (Ints.one Tryd.underlying22)
  have k1 := key 1 1 1 .i8 _ y1 h1 (by simpa [pc22, Value.cells] using a1) (Ints.one Tryd.underlying22)
  have k2 := key 2 2 64 .u8 _ y2 h2 (by simpa [show Tryd.prog.cellsOf 56 = 64 by kernel_rfl, Value.cells] using a2) ints_b64
  have num : ∀ i, ∀ {kd : IntKind} {z : Int}, cs[i]? = some (.int kd z) → cs.getD i undef = .int kd z := fun i kd z h => by simp [Array.getD_eq_getD_getElem?, h]
  refine ⟨⟨intOf (cs.getD 0 undef), intOf (cs.getD 1 undef), fun i => intOf (cs.getD (2 + i) undef)⟩, ⟨?_, ?_, ?_⟩, ?_, ?_⟩
  · obtain ⟨z, hz, hw⟩ := k0.2 0 (by omega); rw [num 0 hz]; exact pwf_i8 hw
  · obtain ⟨z, hz, hw⟩ := k1.2 0 (by omega); rw [num 1 hz]; exact pwf_i8 hw
  · intro i hi; obtain ⟨z, hz, hw⟩ := k2.2 i hi; show 0 ≤ intOf (cs.getD (2 + i) undef) ∧ intOf (cs.getD (2 + i) undef) ≤ 255; rw [num _ hz]; exact pwf_u8 hw
  · congr 1
    apply Array.ext_getElem?
    intro i
    by_cases hi : i < 66
    · rw [vrow_get _ _ _ hi]
      unfold Pic.at
      by_cases c0 : i = 0
      · subst c0; obtain ⟨z, hz, _⟩ := k0.2 0 (by omega); rw [if_pos rfl, num 0 hz]; exact hz
      · rw [if_neg c0]
        by_cases c1 : i = 1
        · subst c1; obtain ⟨z, hz, _⟩ := k1.2 0 (by omega); rw [if_pos rfl, num 1 hz]; exact hz
        · rw [if_neg c1]
          obtain ⟨z, hz, _⟩ := k2.2 (i - 2) (by omega)
          rw [show 2 + (i - 2) = i by omega] at hz
          dsimp only; rw [show 2 + (i - 2) = i by omega, num i hz]; exact hz
    · rw [vrow_none _ _ _ hi]; exact Array.getElem?_eq_none (by omega)
  · simp only [Prod.mk.injEq] at hx
    rw [hx.2]
    match xs, hxl5, h0, h1, h2 with
    | [z0, z1, z2], _, h0, h1, h2 =>
      simp at h0 h1 h2
      subst h0 h1 h2
      simp [k0.1, k1.1, k2.1]
end Go.Proofs.YtfgcpiipndhllaaDoor
