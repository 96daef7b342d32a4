import Derived.Test.YtfhfiaphdgfmnaaDoorErr
import Derived.Test.YtfhfiaphdgfmnaaDoorRows
import Derived.ChangeSame
import Derived.ChangeVars
import Derived.LaidLaws
import Derived.LaidMore
import Derived.ProofKit
import Derived.OpenShut
import Derived.Carry
import Derived.Stop.Joined
import Derived.Stop.ErrReads
namespace Go.Proofs.YtfhfiaphdgfmnaaDoor
open Go.ChangeShapes Go.WideShapes Go.ChangeAt Go.RowKit
set_option maxRecDepth 100000
set_option linter.unusedVariables false
theorem ownK : ownKnob Tryd.prog.godebug = none := by kernel_rfl
theorem gn_errInvalid : Tryd.prog.globalNamed "loop.example/g01360/impl.errInvalid" = some 0 := by kernel_rfl
theorem gt_errInvalid : (Tryd.prog.globals[0]?).map (·.type) = some 73 := by kernel_rfl
theorem gn_errRange : Tryd.prog.globalNamed "loop.example/g01360/impl.errRange" = some 1 := by kernel_rfl
theorem gt_errRange : (Tryd.prog.globals[1]?).map (·.type) = some 73 := by kernel_rfl
theorem gn_errLimit : Tryd.prog.globalNamed "loop.example/g01360/impl.errLimit" = some 3 := by kernel_rfl
theorem gt_errLimit : (Tryd.prog.globals[3]?).map (·.type) = some 73 := by kernel_rfl
theorem gn_errState : Tryd.prog.globalNamed "loop.example/g01360/impl.errState" = some 2 := by kernel_rfl
theorem gt_errState : (Tryd.prog.globals[2]?).map (·.type) = some 73 := by kernel_rfl
theorem gn_errSyntax : Tryd.prog.globalNamed "loop.example/g01360/impl.errSyntax" = some 4 := by kernel_rfl
theorem gt_errSyntax : (Tryd.prog.globals[4]?).map (·.type) = some 73 := by kernel_rfl
theorem gn_errBudget : Tryd.prog.globalNamed "loop.example/g01360/impl.errBudget" = some 5 := by kernel_rfl
theorem gt_errBudget : (Tryd.prog.globals[5]?).map (·.type) = some 73 := by kernel_rfl
theorem name_es : Tryd.prog.typeName? 3 168 = some "*errors.errorString" := by kernel_rfl
theorem cells_es : Tryd.prog.cellsOf 194 = 1 := by kernel_rfl
theorem cells_str : Tryd.prog.cellsOf 9 = 1 := by kernel_rfl
theorem star_es : "*" ++ "errors.errorString" = "*errors.errorString" := by decide
theorem row_es (u : TypeId) (h : Tryd.prog.typeName? 3 u = some "*errors.errorString") : u = 168 :=
  typeName_ptr_named (nm := "errors.errorString") (by rw [star_es]; kernel_rfl) (by kernel_rfl) (by decide) u (by rw [star_es]; exact h)
theorem var_of_heap {W : World} {n : String} {g : Nat} {v : Value} {t : TypeId} (hg : Tryd.prog.globalNamed n = some g) (h : W.heap[g]? = some (.cells (vrow 1 fun _ => v) t)) : W.var? Tryd.prog n = some #[v] := by
  unfold World.var?
  simp only [hg, Option.bind_some, h]
  rfl
theorem heap_of_var {W : World} {n : String} {g : Nat} {v : Value} (hg : Tryd.prog.globalNamed n = some g) (h : W.var? Tryd.prog n = some #[v]) (hr : ∃ c t, W.heap[g]? = some (.cells c t (0, 0))) : ∃ t, W.heap[g]? = some (.cells (vrow 1 fun _ => v) t) := by
  obtain ⟨c, t, hc⟩ := hr
  unfold World.var? at h
  simp only [hg, Option.bind_some, hc] at h
  obtain rfl := Option.some.inj h
  exact ⟨t, hc⟩
theorem isI (e : ErrE) (k : Nat) : IsIface (errP e k) := trivial
abbrev laidM : List (String × DataW Unit) := [("loop.example/g01360/impl.errInvalid", Rows.laid_loop_example_g01360_impl_errInvalid), ("loop.example/g01360/impl.errRange", Rows.laid_loop_example_g01360_impl_errRange), ("loop.example/g01360/impl.errLimit", Rows.laid_loop_example_g01360_impl_errLimit), ("loop.example/g01360/impl.errState", Rows.laid_loop_example_g01360_impl_errState), ("loop.example/g01360/impl.errSyntax", Rows.laid_loop_example_g01360_impl_errSyntax), ("loop.example/g01360/impl.errBudget", Rows.laid_loop_example_g01360_impl_errBudget)]
theorem door_met (os : Os) (args : Array Value) : laidMetH Tryd.prog laidM ((World.doorLaid Tryd.prog 142 os).forCall (fun _ _ => 0) ⟨#[], args, []⟩).memory :=
  laidMetH_of_parts3 (fuel := 8) (laidMet_of_run' 8 (by kernel_rfl) (by kernel_rfl)) (by kernel_rfl) (by kernel_rfl)
set_option maxHeartbeats 4000000 in
theorem of_laid {W : World} (h : laidMetH Tryd.prog laidM W) : ∃ e : ErrE, Errs e W := by
  rw [MakeChecks.laidMetH_plain _ _ _ (by kernel_rfl)] at h
  obtain ⟨ps, ⟨g0, t0, cs0, f0, p0, q0, hg0, ht0, hv0, hd0, ⟨g1, t1, cs1, f1, p1, q1, hg1, ht1, hv1, hd1, ⟨g2, t2, cs2, f2, p2, q2, hg2, ht2, hv2, hd2, ⟨g3, t3, cs3, f3, p3, q3, hg3, ht3, hv3, hd3, ⟨g4, t4, cs4, f4, p4, q4, hg4, ht4, hv4, hd4, ⟨g5, t5, cs5, f5, p5, q5, hg5, ht5, hv5, hd5, hnil, e5⟩, e4⟩, e3⟩, e2⟩, e1⟩, e0⟩, hnd, hrows⟩ := h
  obtain rfl := Option.some.inj (gn_errInvalid.symm.trans hg0)
  obtain rfl := Option.some.inj (gt_errInvalid.symm.trans ht0)
  obtain rfl := Option.some.inj (gn_errRange.symm.trans hg1)
  obtain rfl := Option.some.inj (gt_errRange.symm.trans ht1)
  obtain rfl := Option.some.inj (gn_errLimit.symm.trans hg2)
  obtain rfl := Option.some.inj (gt_errLimit.symm.trans ht2)
  obtain rfl := Option.some.inj (gn_errState.symm.trans hg3)
  obtain rfl := Option.some.inj (gt_errState.symm.trans ht3)
  obtain rfl := Option.some.inj (gn_errSyntax.symm.trans hg4)
  obtain rfl := Option.some.inj (gt_errSyntax.symm.trans ht4)
  obtain rfl := Option.some.inj (gn_errBudget.symm.trans hg5)
  obtain rfl := Option.some.inj (gt_errBudget.symm.trans ht5)
  have hnil' : q5 = [] := hnil
  subst hnil'
  subst e5
  subst e4
  subst e3
  subst e2
  subst e1
  subst e0
  obtain ⟨l0⟩ := cs0
  obtain ⟨l1⟩ := cs1
  obtain ⟨l2⟩ := cs2
  obtain ⟨l3⟩ := cs3
  obtain ⟨l4⟩ := cs4
  obtain ⟨l5⟩ := cs5
  have ok0 : ∀ u v, l0 = [.iface u v] → Value.okWide Tryd.prog W .any 0 u v := fun u v e => by
    subst e
    exact (hrows 0 0 (by simp [MemPlace.row])).2 u v (by simpa using World.var?_cell hg0 hv0 0)
  have ok1 : ∀ u v, l1 = [.iface u v] → Value.okWide Tryd.prog W .any 0 u v := fun u v e => by
    subst e
    exact (hrows 1 0 (by simp [MemPlace.row])).2 u v (by simpa using World.var?_cell hg1 hv1 0)
  have ok2 : ∀ u v, l2 = [.iface u v] → Value.okWide Tryd.prog W .any 0 u v := fun u v e => by
    subst e
    exact (hrows 3 0 (by simp [MemPlace.row])).2 u v (by simpa using World.var?_cell hg2 hv2 0)
  have ok3 : ∀ u v, l3 = [.iface u v] → Value.okWide Tryd.prog W .any 0 u v := fun u v e => by
    subst e
    exact (hrows 2 0 (by simp [MemPlace.row])).2 u v (by simpa using World.var?_cell hg3 hv3 0)
  have ok4 : ∀ u v, l4 = [.iface u v] → Value.okWide Tryd.prog W .any 0 u v := fun u v e => by
    subst e
    exact (hrows 4 0 (by simp [MemPlace.row])).2 u v (by simpa using World.var?_cell hg4 hv4 0)
  have ok5 : ∀ u v, l5 = [.iface u v] → Value.okWide Tryd.prog W .any 0 u v := fun u v e => by
    subst e
    exact (hrows 5 0 (by simp [MemPlace.row])).2 u v (by simpa using World.var?_cell hg5 hv5 0)
  obtain ⟨a0, s0, rfl, hc0, hs0, hz0, rfl⟩ := errorString_of_trod Tryd.underlying73 row_es Tryd.underlying168 Tryd.underlying194 rfl rfl Tryd.underlying9 cells_es cells_str hd0 ok0
  obtain ⟨a1, s1, rfl, hc1, hs1, hz1, rfl⟩ := errorString_of_trod Tryd.underlying73 row_es Tryd.underlying168 Tryd.underlying194 rfl rfl Tryd.underlying9 cells_es cells_str hd1 ok1
  obtain ⟨a2, s2, rfl, hc2, hs2, hz2, rfl⟩ := errorString_of_trod Tryd.underlying73 row_es Tryd.underlying168 Tryd.underlying194 rfl rfl Tryd.underlying9 cells_es cells_str hd2 ok2
  obtain ⟨a3, s3, rfl, hc3, hs3, hz3, rfl⟩ := errorString_of_trod Tryd.underlying73 row_es Tryd.underlying168 Tryd.underlying194 rfl rfl Tryd.underlying9 cells_es cells_str hd3 ok3
  obtain ⟨a4, s4, rfl, hc4, hs4, hz4, rfl⟩ := errorString_of_trod Tryd.underlying73 row_es Tryd.underlying168 Tryd.underlying194 rfl rfl Tryd.underlying9 cells_es cells_str hd4 ok4
  obtain ⟨a5, s5, rfl, hc5, hs5, hz5, rfl⟩ := errorString_of_trod Tryd.underlying73 row_es Tryd.underlying168 Tryd.underlying194 rfl rfl Tryd.underlying9 cells_es cells_str hd5 ok5
  obtain ⟨w0, h0⟩ := heap_of_var gn_errInvalid hv0 (hrows 0 0 (by simp [MemPlace.row])).1
  have r0 := (hrows a0.block a0.off (by simp [MemPlace.row])).1
  obtain ⟨w1, h1⟩ := heap_of_var gn_errRange hv1 (hrows 1 0 (by simp [MemPlace.row])).1
  have r1 := (hrows a1.block a1.off (by simp [MemPlace.row])).1
  obtain ⟨w2, h2⟩ := heap_of_var gn_errLimit hv2 (hrows 3 0 (by simp [MemPlace.row])).1
  have r2 := (hrows a2.block a2.off (by simp [MemPlace.row])).1
  obtain ⟨w3, h3⟩ := heap_of_var gn_errState hv3 (hrows 2 0 (by simp [MemPlace.row])).1
  have r3 := (hrows a3.block a3.off (by simp [MemPlace.row])).1
  obtain ⟨w4, h4⟩ := heap_of_var gn_errSyntax hv4 (hrows 4 0 (by simp [MemPlace.row])).1
  have r4 := (hrows a4.block a4.off (by simp [MemPlace.row])).1
  obtain ⟨w5, h5⟩ := heap_of_var gn_errBudget hv5 (hrows 5 0 (by simp [MemPlace.row])).1
  have r5 := (hrows a5.block a5.off (by simp [MemPlace.row])).1
  have hne : a0 ≠ a1 ∧ a0 ≠ a2 ∧ a0 ≠ a3 ∧ a0 ≠ a4 ∧ a0 ≠ a5 ∧ a1 ≠ a2 ∧ a1 ≠ a3 ∧ a1 ≠ a4 ∧ a1 ≠ a5 ∧ a2 ≠ a3 ∧ a2 ≠ a4 ∧ a2 ≠ a5 ∧ a3 ≠ a4 ∧ a3 ≠ a5 ∧ a4 ≠ a5 := by
    refine ⟨?_, ?_, ?_, ?_, ?_, ?_, ?_, ?_, ?_, ?_, ?_, ?_, ?_, ?_, ?_⟩ <;> (rintro rfl; simp [MemPlace.row] at hnd)
  obtain ⟨n01, n02, n03, n04, n05, n12, n13, n14, n15, n23, n24, n25, n34, n35, n45⟩ := hne
  refine ⟨⟨fun k => if k = 1 then a0 else if k = 2 then a1 else if k = 3 then a2 else if k = 4 then a3 else if k = 5 then a4 else a5, fun k => if k = 1 then w0 else if k = 2 then w1 else if k = 3 then w2 else if k = 4 then w3 else if k = 5 then w4 else w5⟩, ⟨h0, h1, h2, h3, h4, h5, ?_, ?_⟩⟩
  · intro i j h1 h2 hij
    have hi : i = 1 ∨ i = 2 ∨ i = 3 ∨ i = 4 ∨ i = 5 ∨ i = 7 := by simp [okK] at h1; omega
    have hj : j = 1 ∨ j = 2 ∨ j = 3 ∨ j = 4 ∨ j = 5 ∨ j = 7 := by simp [okK] at h2; omega
    rcases hi with rfl | rfl | rfl | rfl | rfl | rfl <;> rcases hj with rfl | rfl | rfl | rfl | rfl | rfl <;> first | exact absurd rfl hij | assumption | (apply Ne.symm; assumption)
  · intro i h1
    have hi : i = 1 ∨ i = 2 ∨ i = 3 ∨ i = 4 ∨ i = 5 ∨ i = 7 := by simp [okK] at h1; omega
    rcases hi with rfl | rfl | rfl | rfl | rfl | rfl <;> assumption
end Go.Proofs.YtfhfiaphdgfmnaaDoor
