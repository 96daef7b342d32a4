import Derived.Test.YtfhfiaphdgfmnaaXLib
namespace Go.Proofs.Ytfhfiaphdgfmnaa
open Go.RowKit
set_option maxRecDepth 100000
/-- A composite literal. -/
theorem wpList_built {P : Program} {ops : Array Oper} {rest : List Oper} {o : Oper} {a : Act} {w : World} {Q : Exit → Act → World → Prop} (hg : o.guard = none) (t : TypeId) (parts : List (Nat × Operand)) (ho : o.op = .build t parts.toArray)
    (l : List (Nat × Value)) (hl : (parts.map fun p => (p.1, a.eval p.2)) = l) (cells : Array Value) (hc : P.built t l = some cells)
    (h : wpList P ops Q rest (a.put o.dst (.agg cells)) w) : wpList P ops Q (o :: rest) a w := by
  have e : ((parts.toArray.map fun (i, x) => (i, a.eval x)).toList) = l := by rw [← hl]; simp
  exact wpList_build hg t parts.toArray ho (by rw [e, hc]; rfl) (by rw [e, hc]; exact h)
/-- THE RESULTS: a row and a slot. -/
theorem ret_row2 {P : Program} {fn : Func} {R : Ending → World → Prop} {a : Act} {w : World} {p u : Tmp} {ty : TypeId} (hr : fn.results = #[.cell p ty, .tmp u]) (b : Nat) (n : Nat) (f : Nat → Value) (t : TypeId) (d : TypeDesc) (hu : P.underlying ty = some d) (hd : d.isRow = true) (hi : (P.info? ty).map (·.size) = some n) (v : Value)
    (hp : a.tmps.getD p undef = .pointer (some ⟨b, 0, none⟩)) (hv : a.tmps.getD u undef = v) (hdf : a.defers = []) (hg : w.heap[b]? = some (.cells (vrow n f) t)) (h : R (.returned (.tuple #[.agg (vrow n f), v])) w) : bodyPost P fn R .ret a w := by
  refine bodyPost_ret ?_ hdf h
  have hl := run_loadVar_row (P := P) w b t ty (vrow n f) (0, 0) d hg hu (by cases d <;> first | rfl | exact hd) (by rw [vrow_size]; exact hi)
  rw [results_cell_tmp hr, hp, hv]
  simp [asAddr, hl, Result.andThen]
/-- THE RESULTS: a row and two slots. -/
theorem ret_row3 {P : Program} {fn : Func} {R : Ending → World → Prop} {a : Act} {w : World} {p u q : Tmp} {ty : TypeId} (hr : fn.results = #[.cell p ty, .tmp u, .tmp q]) (b : Nat) (n : Nat) (f : Nat → Value) (t : TypeId) (d : TypeDesc) (hu : P.underlying ty = some d) (hd : d.isRow = true) (hi : (P.info? ty).map (·.size) = some n) (v v' : Value)
    (hp : a.tmps.getD p undef = .pointer (some ⟨b, 0, none⟩)) (hv : a.tmps.getD u undef = v) (hv' : a.tmps.getD q undef = v') (hdf : a.defers = []) (hg : w.heap[b]? = some (.cells (vrow n f) t)) (h : R (.returned (.tuple #[.agg (vrow n f), v, v'])) w) : bodyPost P fn R .ret a w := by
  refine bodyPost_ret ?_ hdf h
  have hl := run_loadVar_row (P := P) w b t ty (vrow n f) (0, 0) d hg hu (by cases d <;> first | rfl | exact hd) (by rw [vrow_size]; exact hi)
  have hp' : a.tmps[p]?.getD undef = .pointer (some ⟨b, 0, none⟩) := by simpa using hp
  have hv1 : a.tmps[u]?.getD undef = v := by simpa using hv
  have hv2 : a.tmps[q]?.getD undef = v' := by simpa using hv'
  simp [results, hr, hp', hv1, hv2, asAddr, hl, Result.andThen]
/-- a sheet may have so many columns and rows -/
def sizeB (a c : Int) : Bool := decide (1 ≤ a) && (decide (a ≤ 8) && (decide (1 ≤ c) && decide (c ≤ 8)))
theorem isSize_any (a c : Int) (w : World) : Calls Try.prog 42 #[.int .i64 a, .int .i64 c] w fun e w' => e = .returned (.bool (sizeB a c)) ∧ w = w' := by
  by_cases h1 : 1 ≤ a
  · by_cases h2 : a ≤ 8
    · by_cases h3 : 1 ≤ c
      · by_cases h4 : c ≤ 8
        all_goals
          go_enter Try.func42, Try.ntmps42
          go_wp2
          go_ret
          exact ⟨by simp [sizeB] <;> (first | omega | (intros; omega)), rfl⟩
      · go_enter Try.func42, Try.ntmps42
        go_wp2
        go_ret
        exact ⟨by simp [sizeB] <;> (first | omega | (intros; omega)), rfl⟩
    · go_enter Try.func42, Try.ntmps42
      go_wp2
      go_ret
      exact ⟨by simp [sizeB] <;> (first | omega | (intros; omega)), rfl⟩
  · go_enter Try.func42, Try.ntmps42
    go_wp2
    go_ret
    exact ⟨by simp [sizeB] <;> (first | omega | (intros; omega)), rfl⟩
theorem sizeB_yes {a c : Int} (h1 : 1 ≤ a) (h2 : a ≤ 8) (h3 : 1 ≤ c) (h4 : c ≤ 8) : sizeB a c = true := by simp [sizeB, h1, h2, h3, h4]
theorem sizeB_no {a c : Int} (h : a < 1 ∨ 8 < a ∨ c < 1 ∨ 8 < c) : sizeB a c = false := by
  simp only [sizeB, Bool.and_eq_false_iff, decide_eq_false_iff_not]
  omega
end Go.Proofs.Ytfhfiaphdgfmnaa
