import Derived.Test.YtmcpaangofdmpaaDoorOpen
namespace Go.Proofs.YtmcpaangofdmpaaDoor
open Go.ChangeShapes Go.WideShapes Go.ChangeAt Go.RowKit
set_option maxRecDepth 100000
set_option linter.unusedVariables false
set_option linter.unusedSimpArgs false
/-- A FOLD THAT CAME IN. -/
theorem c_bool : Tryd.prog.cellsOf 4 = 1 := by kernel_rfl
theorem open_fold {H : Type} {enc : TypeId × Value → H} {W : World} {r : Reach} {b0 base : Nat} {spare : Nat → Bool} {held : Bool} {v : Value} {d : DataW H} {p : List MemPlace}
    (hv : Value.okWide Tryd.prog W r b0 33 v) (h : DataW.Trod enc Tryd.prog W base spare held 33 v d p) : ∃ (ax : Int) (dn : Bool) (pr : Int), (Lit.int .i8 ax).wf = true ∧ (Lit.int .i8 pr).wf = true ∧ v = .agg #[.int .i8 ax, .bool dn, .int .i8 pr] ∧ p = [] := by
  obtain ⟨cs, rfl, hsz⟩ := okWide_struct Tryd.underlying33 hv
  obtain ⟨fuel, hf⟩ := h
  obtain ⟨xs, n, rfl, hx, hl, hxl, hall⟩ := DataW.trod_struct Tryd.underlying33 hf
  have hC : Tryd.prog.cellsOf 33 = 3 := by kernel_rfl
  rw [hC] at hsz
  have a0 := hall 0 _ rfl
  have a1 := hall 1 _ rfl
  have a2 := hall 2 _ rfl
  have hxl3 : xs.length = 3 := hxl
  match xs, hxl3 with
  | [z0, z1, z2], _ =>
    match cs, hsz with
    | ⟨[v0, v1, v2]⟩, _ =>
      obtain ⟨m0, e0, f0, w0⟩ := DataW.trod_int Tryd.underlying22 (x := z0) a0
      obtain ⟨m1, e1, f1⟩ := DataW.trod_bool Tryd.underlying4 (x := z1) a1
      obtain ⟨m2, e2, f2, w2⟩ := DataW.trod_int Tryd.underlying22 (x := z2) a2
      simp [c22, c_bool, Value.cells] at e0 e1 e2
      subst e0 e1 e2
      simp only [Prod.mk.injEq] at hx
      exact ⟨m0, m1, m2, w0, w2, rfl, by rw [hx.2]; simp [f0, f1, f2]⟩
end Go.Proofs.YtmcpaangofdmpaaDoor
