import Derived.Test.YtdigbikldkkhpaaG1
namespace Go.Proofs.Ytdigbikldkkhpaa
open Go.RowKit
set_option maxRecDepth 100000
set_option linter.unusedVariables false
attribute [local go_sem] Oper.semAt_some
theorem size_bool : (Try.prog.info? 4).map (·.size) = some 1 := by kernel_rfl
def okI (s : Sh) : Bool := (decide (1 ≤ s.wide) && decide (s.wide ≤ 8)) && ((decide (1 ≤ s.high) && decide (s.high ≤ 8)) && (cellsL 8 8).all fun p => validB s p.1.1 p.1.2)
theorem mem_cells (p : Sp8) : p ∈ cellsL 8 8 := by
  obtain ⟨⟨x, y⟩, hx, hy⟩ := p
  simp only [cellsL, List.mem_flatMap, List.mem_range, rowOf, List.mem_map]
  exact ⟨y, hy, x, hx, Subtype.ext (mk8_x hx hy)⟩
theorem okI_no (s : Sh) (p : Sp8) (h : validB s p.1.1 p.1.2 = false) : okI s = false := by
  have : ((cellsL 8 8).all fun p => validB s p.1.1 p.1.2) = false := by rw [List.all_eq_false]; exact ⟨p, mem_cells p, by simp [h]⟩
  simp [okI, this]
theorem okI_yes (s : Sh) (h1 : 1 ≤ s.wide) (h2 : s.wide ≤ 8) (h3 : 1 ≤ s.high) (h4 : s.high ≤ 8) (h : ∀ p ∈ cellsL 8 8, validB s p.1.1 p.1.2 = true) : okI s = true := by
  have : ((cellsL 8 8).all fun p => validB s p.1.1 p.1.2) = true := by rw [List.all_eq_true]; exact h
  simp [okI, this, h1, h2, h3, h4]
theorem ff_row : vrow 1 (over (fun _ => Value.bool false) 0 1 fun _ => Value.bool false) = vrow 1 (fun _ => Value.bool false) := vrow_over_all _ _ _
theorem ft_row : vrow 1 (over (fun _ => Value.bool false) 0 1 fun _ => Value.bool true) = vrow 1 (fun _ => Value.bool true) := vrow_over_all _ _ _
/-- A result that is one cell. -/
theorem res_cell1 {P : Program} {fn : Func} {p : Tmp} {ty : TypeId} (h : fn.results = #[.cell p ty]) (tmps : Array Value) (w : World) (g n : Nat) (f : Nat → Value) (t : TypeId) (hu : (P.underlying ty).map (·.isRow) = some false)
    (hp : tmps.getD p undef = .pointer (some ⟨g, 0, none⟩)) (hg : w.heap[g]? = some (.cells (vrow n f) t)) (hn : 0 < n) : (results fn tmps).run P w = .ok (f 0) w := by
  obtain ⟨d, hu', hd⟩ := Option.map_eq_some_iff.1 hu
  have hp' : tmps[p]?.getD undef = .pointer (some ⟨g, 0, none⟩) := by simpa using hp
  have hc := cell_row hg hn
  have hl : (loadVar ty ⟨g, 0, none⟩).run P w = .ok (f 0) w := by
    simp only [loadVar, Sem.run_bind, run_isAgg_row w ty d hu', hd, Result.andThen_ok, Bool.false_eq_true, if_false, run_load, hc]
  simp [results, h, hp', asAddr, hl]
/-- BEHIND A RANGE OVER A FUNCTION: the return. -/
theorem leaveM {n : Nat} {P : Program} {fn : Func} {R : Ending → World → Prop} {a : Act} {W : World} {D : Nat} {v : Value} (hd : a.defers = [{ target := .collected D, args := #[] }]) (hh : W.heap[D]? = some (.deferred (some [])))
    (hres : (results fn a.tmps).run P (W.putObj D (.deferred none)) = .ok v (W.putObj D (.deferred none))) (hR : R (.returned v) (W.putObj D (.deferred none))) : bodyPostM Fence.wide n P fn R .ret a W := by
  show LeavesInM Fence.wide n P fn a.tmps R a.defers .returning W
  rw [hd]
  exact ⟨by simp, .inl ⟨D, _, rfl, run_takeDeferred hh, ⟨v, hres, hR⟩⟩⟩
theorem row_put {W : World} {b D : Nat} {o x : Obj} (h : W.heap[b]? = some o) (hne : b ≠ D) : (W.putObj D x).heap[b]? = some o := (World.putObj_heap_other hne).trans h
theorem below_put {w W : World} {D : Nat} (x : Obj) (h : Below w.heap.size w W) (hD : w.heap.size ≤ D) (hlt : D < W.heap.size) : Below w.heap.size w (W.putObj D x) :=
  h.grown (grownBy_putObj' W D x) h.size (fun k e => by cases e; exact hD)
theorem rw_bool : (Try.prog.underlying 4).map (·.isRow) = some false := by kernel_rfl
end Go.Proofs.Ytdigbikldkkhpaa
