import Derived.Test.YthienbbecbakjaaDoorOpen
namespace Go.Proofs.YthienbbecbakjaaDoor
open Go.ChangeShapes Go.WideShapes Go.ChangeAt Go.RowKit
set_option maxRecDepth 100000
/-- A SPOT THAT CAME IN. -/
theorem open_spot {H : Type} {enc : TypeId × Value → H} {W : World} {r : Reach} {b0 base : Nat} {spare : Nat → Bool} {held : Bool} {v : Value} {d : DataW H} {p : List MemPlace}
    (hv : Value.okWide Tryd.prog W r b0 63 v) (h : DataW.Trod enc Tryd.prog W base spare held 63 v d p) : ∃ x y : Int, (Lit.int .i8 x).wf = true ∧ (Lit.int .i8 y).wf = true ∧ v = .agg #[.int .i8 x, .int .i8 y] ∧ p = [] := by
  obtain ⟨cs, rfl, hsz⟩ := okWide_struct Tryd.underlying63 hv
  obtain ⟨fuel, hf⟩ := h
  obtain ⟨xs, n, rfl, hx, hl, hxl, hall⟩ := DataW.trod_struct Tryd.underlying63 hf
  have hC : Tryd.prog.cellsOf 63 = 2 := by kernel_rfl
  rw [hC] at hsz
  have a0 := hall 0 _ rfl
  have a1 := hall 1 _ rfl
  have hxl2 : xs.length = 2 := hxl
  match xs, hxl2 with
  | [z0, z1], _ =>
    match cs, hsz with
    | ⟨[v0, v1]⟩, _ =>
      obtain ⟨m0, e0, f0, w0⟩ := DataW.trod_int Tryd.underlying22 (x := z0) a0
      obtain ⟨m1, e1, f1, w1⟩ := DataW.trod_int Tryd.underlying22 (x := z1) a1
      simp [c22, Value.cells] at e0 e1
      subst e0 e1
      simp only [Prod.mk.injEq] at hx
      exact ⟨m0, m1, w0, w1, rfl, by rw [hx.2]; simp [f0, f1]⟩
end Go.Proofs.YthienbbecbakjaaDoor
