import Derived.Test.YtfdjlflnhhiecaaDoorLaid
import Derived.Test.YtfdjlflnhhiecaaDoorG1
namespace Go.Proofs.YtfdjlflnhhiecaaDoor
open Go.RowKit
set_option maxRecDepth 100000
set_option linter.unusedVariables false
open Go.ChangeShapes Go.WideShapes Go.ChangeAt
def nameL : Nat → List UInt8
  | 0 => [111, 107]
  | 1 => [105, 110, 118, 97, 108, 105, 100]
  | 2 => [114, 97, 110, 103, 101]
  | 3 => [108, 105, 109, 105, 116]
  | 4 => [115, 116, 97, 116, 101]
  | 5 => [115, 121, 110, 116, 97, 120]
  | 6 => [110, 111, 116, 102, 111, 117, 110, 100]
  | 7 => [98, 117, 100, 103, 101, 116]
  | 8 => [112, 114, 111, 111, 102]
  | _ => []
def nameS (k : Nat) : ByteArray := ⟨(nameL k).toArray⟩
def nameAt (k : Nat) : Value := .string (nameS k)
theorem gn_names : Tryd.prog.globalNamed "loop.example/g01360/impl.codeNames" = some 0 := by kernel_rfl
theorem gt_names : (Tryd.prog.globals[0]?).map (·.type) = some 86 := by kernel_rfl
abbrev laidN : List (String × DataW Unit) := [("loop.example/g01360/impl.codeNames", Rows.laid_loop_example_g01360_impl_codeNames)]
theorem door_names (os : Os) (args : Array Value) : laidMetH Tryd.prog laidN ((World.doorLaid Tryd.prog 128 os).forCall (fun _ _ => 0) ⟨#[], args, []⟩).memory :=
  laidMetH_of_parts3 (fuel := 8) (laidMet_of_run' 8 (by kernel_rfl) (by kernel_rfl)) (by kernel_rfl) (by kernel_rfl)
theorem names_of_laid {W : World} (h : laidMetH Tryd.prog laidN W) : ∃ t, W.heap[0]? = some (.cells (vrow 9 nameAt) t) := by
  rw [MakeChecks.laidMetH_plain _ _ _ (by kernel_rfl)] at h
  obtain ⟨ps, ⟨g0, t0, cs0, f0, p0, q0, hg0, ht0, hv0, hd0, hnil, e0⟩, hnd, hrows⟩ := h
  obtain rfl := Option.some.inj (gn_names.symm.trans hg0)
  obtain rfl := Option.some.inj (gt_names.symm.trans ht0)
  have hnil' : q0 = [] := hnil
  subst hnil'
  subst e0
  obtain ⟨xs, m, _, hx, hl, hxl, hall⟩ := DataW.trod_array Tryd.underlying86 hd0
  have c1 : Tryd.prog.cellsOf 9 = 1 := by kernel_rfl
  have c9 : Tryd.prog.cellsOf 86 = 9 := by kernel_rfl
  rw [c9] at hl
  rw [c1] at hall
  have hx1 := congrArg Prod.fst hx
  have key : ∀ q, q < 9 → cs0[q]? = some (nameAt q) := by
    intro q hq
    have h1 := hall q hq
    have h2 : xs[q]? = some xs[q] := List.getElem?_eq_getElem (by omega)
    rw [h2] at h1
    obtain ⟨s, e1, e2, _⟩ := DataW.trod_string Tryd.underlying9 h1
    have e3 : cs0[q]? = some (.string s) := by
      have : ((cs0.toList.drop (q * 1)).take 1)[0]? = some (.string s) := by rw [e1]; rfl
      rw [List.getElem?_take_of_lt (by omega), List.getElem?_drop] at this
      simpa using this
    have e4 : (xs.map (·.1))[q]? = some (.lit (.string s.data.toList)) := by rw [List.getElem?_map, h2, e2]; rfl
    have e5 : xs.map (·.1) = [.lit (.string [111, 107]), .lit (.string [105, 110, 118, 97, 108, 105, 100]), .lit (.string [114, 97, 110, 103, 101]), .lit (.string [108, 105, 109, 105, 116]), .lit (.string [115, 116, 97, 116, 101]), .lit (.string [115, 121, 110, 116, 97, 120]), .lit (.string [110, 111, 116, 102, 111, 117, 110, 100]), .lit (.string [98, 117, 100, 103, 101, 116]), .lit (.string [112, 114, 111, 111, 102])] := by
      injection hx1 with hx1
      exact hx1.symm
    rw [e5] at e4
    have e6 : nameL q = s.data.toList := by
      have : q = 0 ∨ q = 1 ∨ q = 2 ∨ q = 3 ∨ q = 4 ∨ q = 5 ∨ q = 6 ∨ q = 7 ∨ q = 8 := by omega
      rcases this with rfl | rfl | rfl | rfl | rfl | rfl | rfl | rfl | rfl <;> simpa [nameL] using e4
    rw [e3]
    unfold nameAt nameS
    rw [e6]
  have hr := (hrows 0 0 (by
    have : cs0.size = 9 := by simpa using hl
    simp [MemPlace.row, this])).1
  obtain ⟨c, t, hc⟩ := hr
  refine ⟨t, ?_⟩
  unfold World.var? at hv0
  simp only [gn_names, Option.bind_some, hc] at hv0
  obtain rfl := Option.some.inj hv0
  rw [hc]
  congr 2
  apply Array.ext_getElem?
  intro i
  by_cases hi : i < 9
  · rw [vrow_get _ _ _ hi, key i hi]
  · rw [vrow_none _ _ _ hi]
    exact Array.getElem?_eq_none (by have : c.size = 9 := by simpa using hl
                                     omega)
end Go.Proofs.YtfdjlflnhhiecaaDoor
