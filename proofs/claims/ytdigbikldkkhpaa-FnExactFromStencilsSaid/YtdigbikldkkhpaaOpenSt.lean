import Derived.Test.YtdigbikldkkhpaaOpenPic
import Derived.Test.YtdigbikldkkhpaaStS
namespace Go.Proofs.Ytdigbikldkkhpaa
open Go.RowKit
set_option maxRecDepth 100000
set_option linter.unusedVariables false
set_option linter.unusedSimpArgs false
open Go.ChangeShapes Go.WideShapes Go.ChangeAt
theorem ints_s24 : Ints Try.prog .u8 24 23 := Ints.array Try.underlying23 (M := 8) (by kernel_rfl) (by kernel_rfl) (by omega) pints_x8
/-- THREE STENCILS THAT CAME IN. -/
theorem open_s24 {H : Type} {enc : TypeId × Value → H} {W : World} {r : Reach} {b0 base : Nat} {spare : Nat → Bool} {held : Bool} {v : Value} {d : DataW H} {p : List MemPlace}
    (hv : Value.okWide Try.prog W r b0 23 v) (h : DataW.Trod enc Try.prog W base spare held 23 v d p) : ∃ m : Nat → Int, v = .agg (vrow 24 (s24 m)) ∧ p = [] := by
  simp only [Value.okWide, Try.underlying23] at hv
  obtain ⟨cs, rfl, hsz, _⟩ := hv
  obtain ⟨fuel, hf⟩ := h
  have hC : Try.prog.cellsOf 23 = 24 := by kernel_rfl
  rw [hC] at hsz
  obtain ⟨e1, e2, e3⟩ := ints_s24 H enc W base spare held fuel _ _ hf
  refine ⟨fun i => intOf (cs.getD i undef), ?_, e1⟩
  congr 1
  apply Array.ext_getElem?
  intro i
  by_cases hi : i < 24
  · rw [vrow_get _ _ _ hi]
    obtain ⟨z, hz, _⟩ := e3 i hi
    have hz' : cs[i]? = some (.int .u8 z) := by simpa [Value.cells] using hz
    rw [hz']
    simp [s24, intOf, Array.getD_eq_getD_getElem?, hz']
  · rw [Array.getElem?_eq_none (by omega), Array.getElem?_eq_none (by rw [vrow_size]; omega)]
end Go.Proofs.Ytdigbikldkkhpaa
