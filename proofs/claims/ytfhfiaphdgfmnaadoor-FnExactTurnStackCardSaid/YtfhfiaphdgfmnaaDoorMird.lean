import Derived.Test.YtfhfiaphdgfmnaaDoorClos
import Derived.Test.YtfhfiaphdgfmnaaDoorG1
namespace Go.Proofs.YtfhfiaphdgfmnaaDoor
open Go.RowKit
set_option maxRecDepth 100000
set_option linter.unusedVariables false
set_option linter.unusedSimpArgs false
theorem mird_any (x y : Nat) (s : Sh) (a : Nat) (w : World) (ea : s.wide = a) (ha : a ≤ 8) (hx : x < a) (hy : y < 8) : Calls Tryd.prog 92 #[.agg s.row, .agg (vrow 2 (spAt x y))] w fun e w' => e = .returned (.agg (vrow 2 (spAt ((a - 1 - x : Nat) : Int) ((y : Nat) : Int)))) ∧ Below w.heap.size w w' := by
  have e1 : ((a - 1 - x : Nat) : Int) = (a : Int) - 1 - x := by omega
  rw [e1]
  have zs := zero_spot
  have hB : Hid (Below w.heap.size w (((w.alloc (.cells (vrow 266 s.at) 39)).alloc (.cells (vrow 2 (spAt x y)) 105)).alloc (.cells (vrow 2 (spAt 0 0)) 105))) := ((((Below.refl w.heap.size w).alloc (by simp <;> omega) _).alloc (by simp <;> omega) _).alloc (by simp <;> omega) _)
  have P : Hid ((((w.alloc (.cells (vrow 266 s.at) 39)).alloc (.cells (vrow 2 (spAt x y)) 105)).alloc (.cells (vrow 2 (spAt 0 0)) 105)).heap[w.heap.size]? = some (.cells (vrow 266 s.at) 39)) := heap_past _ _ _ _ (by first | omega | (simp <;> omega)) (heap_past _ _ _ _ (by first | omega | (simp <;> omega)) (heap_at _ _ _ (by simp)))
  have R : Hid ((((w.alloc (.cells (vrow 266 s.at) 39)).alloc (.cells (vrow 2 (spAt x y)) 105)).alloc (.cells (vrow 2 (spAt 0 0)) 105)).heap[w.heap.size + 1]? = some (.cells (vrow 2 (spAt x y)) 105)) := heap_past _ _ _ _ (by first | omega | (simp <;> omega)) (heap_at _ _ _ (by simp))
  have Z : Hid ((((w.alloc (.cells (vrow 266 s.at) 39)).alloc (.cells (vrow 2 (spAt x y)) 105)).alloc (.cells (vrow 2 (spAt 0 0)) 105)).heap[w.heap.size + 1 + 1]? = some (.cells (vrow 2 (spAt 0 0)) 105)) := heap_at _ _ _ (by simp)
  go_enter Tryd.func92, Tryd.ntmps92
  go_wp2_with (first
    | ((with_reducible refine wlAt 6 rfl ?_); refine wpList_load1 rfl 23 _ rfl w.heap.size 0 rfl 266 s.at _ _ Tryd.underlying23 rfl P.out (by omega) ?_; rw [Sh.at_0, ea])
    | ((with_reducible refine wlAt 9 rfl ?_); refine wpList_load1 rfl 23 _ rfl (w.heap.size + 1) 0 rfl 2 (spAt x y) _ _ Tryd.underlying23 rfl R.out (by omega) ?_; rw [spAt_0])
    | ((with_reducible refine wlAt 12 rfl ?_); refine wpList_load1 rfl 23 _ rfl (w.heap.size + 1) 1 rfl 2 (spAt x y) _ _ Tryd.underlying23 rfl R.out (by omega) ?_; rw [spAt_1])
    | (refine wpList_storeall rfl 105 (.tmp 4) (.tmp 13) rfl (w.heap.size + 1 + 1) rfl 2 (spAt 0 0) (spAt ((a : Int) - 1 - x) (y)) rfl 105 size_spot Z.out (fun i _ => spAt_one _ _ i) ?_; replace Z := Go.Lib.hid (row_set Z.out (vrow 2 (spAt ((a : Int) - 1 - x) (y)))); replace hB := Go.Lib.hid (Below_setRow hB.out (show w.heap.size ≤ w.heap.size + 1 + 1 by omega) (vrow 2 (spAt ((a : Int) - 1 - x) (y))))))
  refine ret_row Tryd.results92 (w.heap.size + 1 + 1) 2 (spAt ((a : Int) - 1 - x) (y)) 105 _ Tryd.underlying105 rfl size_spot rfl rfl Z.out ?_
  exact ⟨rfl, hB.out⟩
end Go.Proofs.YtfhfiaphdgfmnaaDoor
