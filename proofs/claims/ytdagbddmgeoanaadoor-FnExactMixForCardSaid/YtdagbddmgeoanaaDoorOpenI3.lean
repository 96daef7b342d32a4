import Derived.Test.YtdagbddmgeoanaaDoorOpen
import Derived.Test.YtdagbddmgeoanaaDoorMxA
namespace Go.Proofs.YtdagbddmgeoanaaDoor
open Go.RowKit
set_option maxRecDepth 100000
set_option linter.unusedVariables false
set_option linter.unusedSimpArgs false
open Go.ChangeShapes Go.WideShapes Go.ChangeAt
theorem c2_64 : Tryd.prog.cellsOf 2 = 1 := by kernel_rfl
theorem ints_i3 : Ints Tryd.prog .i64 3 22 := Ints.array Tryd.underlying22 c2_64 (by kernel_rfl) (by omega) (Ints.one Tryd.underlying2)
/-- THREE NUMBERS THAT CAME IN. -/
theorem open_i3 {H : Type} {enc : TypeId × Value → H} {W : World} {r : Reach} {b0 base : Nat} {spare : Nat → Bool} {held : Bool} {v : Value} {d : DataW H} {p : List MemPlace}
    (hv : Value.okWide Tryd.prog W r b0 22 v) (h : DataW.Trod enc Tryd.prog W base spare held 22 v d p) : ∃ m : Nat → Int, v = .agg (vrow 3 (i3 m)) ∧ p = [] := by
  simp only [Value.okWide, Tryd.underlying22] at hv
  obtain ⟨cs, rfl, hsz, _⟩ := hv
  obtain ⟨fuel, hf⟩ := h
  have hC : Tryd.prog.cellsOf 22 = 3 := by kernel_rfl
  rw [hC] at hsz
  obtain ⟨e1, e2, e3⟩ := ints_i3 H enc W base spare held fuel _ _ hf
  refine ⟨fun i => intOf (cs.getD i undef), ?_, e1⟩
  congr 1
  apply Array.ext_getElem?
  intro i
  by_cases hi : i < 3
  · rw [vrow_get _ _ _ hi]
    obtain ⟨z, hz, _⟩ := e3 i hi
    have hz' : cs[i]? = some (.int .i64 z) := by simpa [Value.cells] using hz
    rw [hz']
    simp [i3, intOf, Array.getD_eq_getD_getElem?, hz']
  · rw [Array.getElem?_eq_none (by omega), Array.getElem?_eq_none (by rw [vrow_size]; omega)]
end Go.Proofs.YtdagbddmgeoanaaDoor
