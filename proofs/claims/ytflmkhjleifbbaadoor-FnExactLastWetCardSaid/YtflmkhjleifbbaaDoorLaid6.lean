import Derived.Test.YtflmkhjleifbbaaDoorLaid
namespace Go.Proofs.YtflmkhjleifbbaaDoor
open Go.ChangeShapes Go.WideShapes Go.ChangeAt Go.RowKit
set_option maxRecDepth 100000
set_option linter.unusedVariables false
theorem gn_errNotFound : Tryd.prog.globalNamed "loop.example/g01360/impl.errNotFound" = some 6 := by kernel_rfl
theorem gt_errNotFound : (Tryd.prog.globals[6]?).map (·.type) = some 58 := by kernel_rfl
abbrev laid6 : List (String × DataW Unit) := [("loop.example/g01360/impl.errInvalid", Rows.laid_loop_example_g01360_impl_errInvalid), ("loop.example/g01360/impl.errRange", Rows.laid_loop_example_g01360_impl_errRange), ("loop.example/g01360/impl.errLimit", Rows.laid_loop_example_g01360_impl_errLimit), ("loop.example/g01360/impl.errState", Rows.laid_loop_example_g01360_impl_errState), ("loop.example/g01360/impl.errSyntax", Rows.laid_loop_example_g01360_impl_errSyntax), ("loop.example/g01360/impl.errNotFound", Rows.laid_loop_example_g01360_impl_errNotFound), ("loop.example/g01360/impl.errBudget", Rows.laid_loop_example_g01360_impl_errBudget)]
theorem door_met6 (os : Os) (args : Array Value) : laidMetH Tryd.prog laid6 ((World.doorLaid Tryd.prog 142 os).forCall (fun _ _ => 0) ⟨#[], args, []⟩).memory :=
  laidMetH_of_parts3 (fuel := 8) (laidMet_of_run' 8 (by kernel_rfl) (by kernel_rfl)) (by kernel_rfl) (by kernel_rfl)
set_option maxHeartbeats 4000000 in
theorem of_laid6 {W : World} (h : laidMetH Tryd.prog laid6 W) : ∃ e : ErrE, Err6 e W := by
  rw [MakeChecks.laidMetH_plain _ _ _ (by kernel_rfl)] at h
  obtain ⟨ps, ⟨g0, t0, cs0, f0, p0, q0, hg0, ht0, hv0, hd0, ⟨g1, t1, cs1, f1, p1, q1, hg1, ht1, hv1, hd1, ⟨g2, t2, cs2, f2, p2, q2, hg2, ht2, hv2, hd2, ⟨g3, t3, cs3, f3, p3, q3, hg3, ht3, hv3, hd3, ⟨g4, t4, cs4, f4, p4, q4, hg4, ht4, hv4, hd4, ⟨g5, t5, cs5, f5, p5, q5, hg5, ht5, hv5, hd5, ⟨g6, t6, cs6, f6, p6, q6, hg6, ht6, hv6, hd6, hnil, e6⟩, e5⟩, e4⟩, e3⟩, e2⟩, e1⟩, e0⟩, hnd, hrows⟩ := h
  obtain rfl := Option.some.inj (gn_errInvalid.symm.trans hg0)
  obtain rfl := Option.some.inj (gt_errInvalid.symm.trans ht0)
  obtain rfl := Option.some.inj (gn_errRange.symm.trans hg1)
  obtain rfl := Option.some.inj (gt_errRange.symm.trans ht1)
  obtain rfl := Option.some.inj (gn_errLimit.symm.trans hg2)
  obtain rfl := Option.some.inj (gt_errLimit.symm.trans ht2)
  obtain rfl := Option.some.inj (gn_errState.symm.trans hg3)
  obtain rfl := Option.some.inj (gt_errState.symm.trans ht3)
  obtain rfl := Option.some.inj (gn_errSyntax.symm.trans hg4)
  obtain rfl := Option.some.inj (gt_errSyntax.symm.trans ht4)
  obtain rfl := Option.some.inj (gn_errNotFound.symm.trans hg5)
  obtain rfl := Option.some.inj (gt_errNotFound.symm.trans ht5)
  obtain rfl := Option.some.inj (gn_errBudget.symm.trans hg6)
  obtain rfl := Option.some.inj (gt_errBudget.symm.trans ht6)
  have hnil' : q6 = [] := hnil
  subst hnil'
  subst e6
  subst e5
  subst e4
  subst e3
  subst e2
  subst e1
  subst e0
  obtain ⟨l0⟩ := cs0
  obtain ⟨l1⟩ := cs1
  obtain ⟨l2⟩ := cs2
  obtain ⟨l3⟩ := cs3
  obtain ⟨l4⟩ := cs4
  obtain ⟨l5⟩ := cs5
  obtain ⟨l6⟩ := cs6
  have ok0 : ∀ u v, l0 = [.iface u v] → Value.okWide Tryd.prog W .any 0 u v := fun u v e => by
    subst e
    exact (hrows 0 0 (by simp [MemPlace.row])).2 u v (by simpa using World.var?_cell hg0 hv0 0)
  have ok1 : ∀ u v, l1 = [.iface u v] → Value.okWide Tryd.prog W .any 0 u v := fun u v e => by
    subst e
    exact (hrows 1 0 (by simp [MemPlace.row])).2 u v (by simpa using World.var?_cell hg1 hv1 0)
  have ok2 : ∀ u v, l2 = [.iface u v] → Value.okWide Tryd.prog W .any 0 u v := fun u v e => by
    subst e
    exact (hrows 2 0 (by simp [MemPlace.row])).2 u v (by simpa using World.var?_cell hg2 hv2 0)
  have ok3 : ∀ u v, l3 = [.iface u v] → Value.okWide Tryd.prog W .any 0 u v := fun u v e => by
    subst e
    exact (hrows 3 0 (by simp [MemPlace.row])).2 u v (by simpa using World.var?_cell hg3 hv3 0)
  have ok4 : ∀ u v, l4 = [.iface u v] → Value.okWide Tryd.prog W .any 0 u v := fun u v e => by
    subst e
    exact (hrows 4 0 (by simp [MemPlace.row])).2 u v (by simpa using World.var?_cell hg4 hv4 0)
  have ok5 : ∀ u v, l5 = [.iface u v] → Value.okWide Tryd.prog W .any 0 u v := fun u v e => by
    subst e
    exact (hrows 6 0 (by simp [MemPlace.row])).2 u v (by simpa using World.var?_cell hg5 hv5 0)
  have ok6 : ∀ u v, l6 = [.iface u v] → Value.okWide Tryd.prog W .any 0 u v := fun u v e => by
    subst e
    exact (hrows 5 0 (by simp [MemPlace.row])).2 u v (by simpa using World.var?_cell hg6 hv6 0)
  obtain ⟨a0, s0, rfl, hc0, hs0, hz0, rfl⟩ := errorString_of_trod Tryd.underlying58 row_es Tryd.underlying123 Tryd.underlying149 rfl rfl Tryd.underlying9 cells_es cells_str hd0 ok0
  obtain ⟨a1, s1, rfl, hc1, hs1, hz1, rfl⟩ := errorString_of_trod Tryd.underlying58 row_es Tryd.underlying123 Tryd.underlying149 rfl rfl Tryd.underlying9 cells_es cells_str hd1 ok1
  obtain ⟨a2, s2, rfl, hc2, hs2, hz2, rfl⟩ := errorString_of_trod Tryd.underlying58 row_es Tryd.underlying123 Tryd.underlying149 rfl rfl Tryd.underlying9 cells_es cells_str hd2 ok2
  obtain ⟨a3, s3, rfl, hc3, hs3, hz3, rfl⟩ := errorString_of_trod Tryd.underlying58 row_es Tryd.underlying123 Tryd.underlying149 rfl rfl Tryd.underlying9 cells_es cells_str hd3 ok3
  obtain ⟨a4, s4, rfl, hc4, hs4, hz4, rfl⟩ := errorString_of_trod Tryd.underlying58 row_es Tryd.underlying123 Tryd.underlying149 rfl rfl Tryd.underlying9 cells_es cells_str hd4 ok4
  obtain ⟨a5, s5, rfl, hc5, hs5, hz5, rfl⟩ := errorString_of_trod Tryd.underlying58 row_es Tryd.underlying123 Tryd.underlying149 rfl rfl Tryd.underlying9 cells_es cells_str hd5 ok5
  obtain ⟨a6, s6, rfl, hc6, hs6, hz6, rfl⟩ := errorString_of_trod Tryd.underlying58 row_es Tryd.underlying123 Tryd.underlying149 rfl rfl Tryd.underlying9 cells_es cells_str hd6 ok6
  obtain ⟨w0, h0⟩ := heap_of_var gn_errInvalid hv0 (hrows 0 0 (by simp [MemPlace.row])).1
  have r0 := (hrows a0.block a0.off (by simp [MemPlace.row])).1
  obtain ⟨w1, h1⟩ := heap_of_var gn_errRange hv1 (hrows 1 0 (by simp [MemPlace.row])).1
  have r1 := (hrows a1.block a1.off (by simp [MemPlace.row])).1
  obtain ⟨w2, h2⟩ := heap_of_var gn_errLimit hv2 (hrows 2 0 (by simp [MemPlace.row])).1
  have r2 := (hrows a2.block a2.off (by simp [MemPlace.row])).1
  obtain ⟨w3, h3⟩ := heap_of_var gn_errState hv3 (hrows 3 0 (by simp [MemPlace.row])).1
  have r3 := (hrows a3.block a3.off (by simp [MemPlace.row])).1
  obtain ⟨w4, h4⟩ := heap_of_var gn_errSyntax hv4 (hrows 4 0 (by simp [MemPlace.row])).1
  have r4 := (hrows a4.block a4.off (by simp [MemPlace.row])).1
  obtain ⟨w5, h5⟩ := heap_of_var gn_errNotFound hv5 (hrows 6 0 (by simp [MemPlace.row])).1
  have r5 := (hrows a5.block a5.off (by simp [MemPlace.row])).1
  obtain ⟨w6, h6⟩ := heap_of_var gn_errBudget hv6 (hrows 5 0 (by simp [MemPlace.row])).1
  have r6 := (hrows a6.block a6.off (by simp [MemPlace.row])).1
  have hne : a0 ≠ a1 ∧ a0 ≠ a2 ∧ a0 ≠ a3 ∧ a0 ≠ a4 ∧ a0 ≠ a5 ∧ a0 ≠ a6 ∧ a1 ≠ a2 ∧ a1 ≠ a3 ∧ a1 ≠ a4 ∧ a1 ≠ a5 ∧ a1 ≠ a6 ∧ a2 ≠ a3 ∧ a2 ≠ a4 ∧ a2 ≠ a5 ∧ a2 ≠ a6 ∧ a3 ≠ a4 ∧ a3 ≠ a5 ∧ a3 ≠ a6 ∧ a4 ≠ a5 ∧ a4 ≠ a6 ∧ a5 ≠ a6 := by
    refine ⟨?_, ?_, ?_, ?_, ?_, ?_, ?_, ?_, ?_, ?_, ?_, ?_, ?_, ?_, ?_, ?_, ?_, ?_, ?_, ?_, ?_⟩ <;> (rintro rfl; simp [MemPlace.row] at hnd)
  obtain ⟨n01, n02, n03, n04, n05, n06, n12, n13, n14, n15, n16, n23, n24, n25, n26, n34, n35, n36, n45, n46, n56⟩ := hne
  refine ⟨⟨fun k => if k = 1 then a0 else if k = 2 then a1 else if k = 3 then a2 else if k = 4 then a3 else if k = 5 then a4 else if k = 6 then a5 else a6, fun k => if k = 1 then w0 else if k = 2 then w1 else if k = 3 then w2 else if k = 4 then w3 else if k = 5 then w4 else if k = 6 then w5 else w6⟩, ⟨⟨h0, h1, h2, h3, h4, h6, ?_, ?_⟩, h5, ?_, r5⟩⟩
  · intro i j h1 h2 hij
    have hi : i = 1 ∨ i = 2 ∨ i = 3 ∨ i = 4 ∨ i = 5 ∨ i = 7 := by simp [okK] at h1; omega
    have hj : j = 1 ∨ j = 2 ∨ j = 3 ∨ j = 4 ∨ j = 5 ∨ j = 7 := by simp [okK] at h2; omega
    rcases hi with rfl | rfl | rfl | rfl | rfl | rfl <;> rcases hj with rfl | rfl | rfl | rfl | rfl | rfl <;> first | exact absurd rfl hij | assumption | (apply Ne.symm; assumption)
  · intro i h1
    have hi : i = 1 ∨ i = 2 ∨ i = 3 ∨ i = 4 ∨ i = 5 ∨ i = 7 := by simp [okK] at h1; omega
    rcases hi with rfl | rfl | rfl | rfl | rfl | rfl <;> assumption
  · intro i h1
    have hi : i = 1 ∨ i = 2 ∨ i = 3 ∨ i = 4 ∨ i = 5 ∨ i = 7 := by simp [okK] at h1; omega
    rcases hi with rfl | rfl | rfl | rfl | rfl | rfl <;> first | assumption | (apply Ne.symm; assumption)
abbrev vars1234576 : List String := ["loop.example/g01360/impl.errInvalid", "loop.example/g01360/impl.errRange", "loop.example/g01360/impl.errLimit", "loop.example/g01360/impl.errState", "loop.example/g01360/impl.errSyntax", "loop.example/g01360/impl.errBudget", "loop.example/g01360/impl.errNotFound"]
theorem vars_read1234576 {H : Type} (enc : TypeId × Value → H) {W : World} {e : ErrE} (hE : Err6 e W) (sp : Nat → Bool) : DataW.TrodVars enc Tryd.prog W sp vars1234576 [tok enc (errP e 1), tok enc (errP e 2), tok enc (errP e 3), tok enc (errP e 4), tok enc (errP e 5), tok enc (errP e 7), tok enc (errP e 6)] [.cell 0 0, .cell 1 0, .cell 2 0, .cell 3 0, .cell 4 0, .cell 5 0, .cell 6 0] :=
  ⟨0, 58, #[errP e 1], 1, [], [.cell 1 0, .cell 2 0, .cell 3 0, .cell 4 0, .cell 5 0, .cell 6 0], gn_errInvalid, gt_errInvalid, var_of_heap gn_errInvalid hE.base.v1, trod_held Tryd.underlying58 (isI e 1) 0, ⟨1, 58, #[errP e 2], 1, [], [.cell 2 0, .cell 3 0, .cell 4 0, .cell 5 0, .cell 6 0], gn_errRange, gt_errRange, var_of_heap gn_errRange hE.base.v2, trod_held Tryd.underlying58 (isI e 2) 0, ⟨2, 58, #[errP e 3], 1, [], [.cell 3 0, .cell 4 0, .cell 5 0, .cell 6 0], gn_errLimit, gt_errLimit, var_of_heap gn_errLimit hE.base.v3, trod_held Tryd.underlying58 (isI e 3) 0, ⟨3, 58, #[errP e 4], 1, [], [.cell 4 0, .cell 5 0, .cell 6 0], gn_errState, gt_errState, var_of_heap gn_errState hE.base.v4, trod_held Tryd.underlying58 (isI e 4) 0, ⟨4, 58, #[errP e 5], 1, [], [.cell 5 0, .cell 6 0], gn_errSyntax, gt_errSyntax, var_of_heap gn_errSyntax hE.base.v5, trod_held Tryd.underlying58 (isI e 5) 0, ⟨5, 58, #[errP e 7], 1, [], [.cell 6 0], gn_errBudget, gt_errBudget, var_of_heap gn_errBudget hE.base.v7, trod_held Tryd.underlying58 (isI e 7) 0, ⟨6, 58, #[errP e 6], 1, [], [], gn_errNotFound, gt_errNotFound, var_of_heap gn_errNotFound hE.v6, trod_held Tryd.underlying58 (isI e 6) 0, rfl, rfl⟩, rfl⟩, rfl⟩, rfl⟩, rfl⟩, rfl⟩, rfl⟩
end Go.Proofs.YtflmkhjleifbbaaDoor
