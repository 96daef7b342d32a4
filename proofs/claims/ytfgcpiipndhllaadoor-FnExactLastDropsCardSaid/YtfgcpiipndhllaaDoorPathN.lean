import Derived.Deep.RegionHeld3
import Derived.Test.YtfgcpiipndhllaaDoorPathE
import Derived.Test.YtfgcpiipndhllaaDoorG1
namespace Go.Proofs.YtfgcpiipndhllaaDoor
open Go.RowKit
set_option maxRecDepth 100000

set_option linter.unusedVariables false
set_option linter.unusedSimpArgs false
set_option linter.unusedSimpArgs false
theorem over_y (x y v : Int) : vrow 2 (over (spAt x y) 1 1 fun _ => .int .i8 v) = vrow 2 (spAt x v) := vrow_ext _ _ _ fun i hi => by
  have h : i = 0 ∨ i = 1 := by omega
  rcases h with rfl | rfl <;> rfl
theorem over_x (x y v : Int) : vrow 2 (over (spAt x y) 0 1 fun _ => .int .i8 v) = vrow 2 (spAt v y) := vrow_ext _ _ _ fun i hi => by
  have h : i = 0 ∨ i = 1 := by omega
  rcases h with rfl | rfl <;> rfl
/-- the spot beyond a side -/
def nextX (x : Int) : Nat → Int
  | 0 => x
  | 1 => x + 1
  | 2 => x
  | _ => x - 1
def nextY (y : Int) : Nat → Int
  | 0 => y - 1
  | 1 => y
  | 2 => y + 1
  | _ => y
set_option maxHeartbeats 1000000 in
theorem next_0 (x y : Nat) (w : World) (hx : x < 8) (hy : y < 8) : Calls Tryd.prog 174 #[.agg (vrow 2 (spAt x y)), .int .i64 0] w fun e w' => e = .returned (.agg (vrow 2 (spAt (x) ((y : Int) - 1)))) ∧ Below w.heap.size w w' := by
  have zs := zero_spot
  have hB : Hid (Below w.heap.size w ((w.alloc (.cells (vrow 2 (spAt x y)) 33)).alloc (.cells (vrow 2 (spAt 0 0)) 33))) := (((Below.refl w.heap.size w).alloc (by simp <;> omega) _).alloc (by simp <;> omega) _)
  have R : Hid (((w.alloc (.cells (vrow 2 (spAt x y)) 33)).alloc (.cells (vrow 2 (spAt 0 0)) 33)).heap[(w.heap.size)]? = some (.cells (vrow 2 (spAt x y)) 33)) := heap_past _ _ _ _ (by first | omega | (simp <;> omega)) (heap_at _ _ _ (by simp))
  have Z : Hid (((w.alloc (.cells (vrow 2 (spAt x y)) 33)).alloc (.cells (vrow 2 (spAt 0 0)) 33)).heap[(w.heap.size + 1)]? = some (.cells (vrow 2 (spAt 0 0)) 33)) := heap_at _ _ _ (by simp)
  go_enter Tryd.func174, Tryd.ntmps174
  go_wp2_with (first
    | (refine wpList_load1 rfl 22 _ rfl (w.heap.size) 1 rfl 2 (spAt x y) _ _ Tryd.underlying22 rfl R.out (by omega) ?_; rw [spAt_1])
    | (refine wpList_store1 rfl 22 (.tmp 15) (.tmp 14) rfl w.heap.size 1 rfl 2 (spAt x y) (.int .i8 ((y : Int) - 1)) rfl 33 size_i8 R.out (by omega) rfl ?_; rw [over_y]; replace Z := Go.Lib.hid (row_set' (g := w.heap.size) (show w.heap.size + 1 ≠ w.heap.size by omega) Z.out (vrow 2 (spAt ((x : Int)) ((y : Int) - 1)))); replace R := Go.Lib.hid (row_set R.out (vrow 2 (spAt ((x : Int)) ((y : Int) - 1)))); replace hB := Go.Lib.hid (Below_setRow hB.out (Nat.le_refl w.heap.size) (vrow 2 (spAt ((x : Int)) ((y : Int) - 1)))))
    | (refine wpList_loadall rfl 33 (.tmp 2) rfl _ rfl 2 (spAt ((x : Int)) ((y : Int) - 1)) 33 _ Tryd.underlying33 rfl size_spot R.out ?_)
    | (refine wpList_storeall rfl 33 (.tmp 4) (.tmp 28) rfl (w.heap.size + 1) rfl 2 (spAt 0 0) (spAt ((x : Int)) ((y : Int) - 1)) rfl 33 size_spot Z.out (fun i _ => spAt_one _ _ i) ?_; replace Z := Go.Lib.hid (row_set Z.out (vrow 2 (spAt ((x : Int)) ((y : Int) - 1)))); replace hB := Go.Lib.hid (Below_setRow hB.out (show w.heap.size ≤ w.heap.size + 1 by omega) (vrow 2 (spAt ((x : Int)) ((y : Int) - 1))))))
  exact ret_row Tryd.results174 (w.heap.size + 1) 2 (spAt ((x : Int)) ((y : Int) - 1)) 33 _ Tryd.underlying33 rfl size_spot rfl rfl Z.out ⟨rfl, hB.out⟩
set_option maxHeartbeats 1000000 in
theorem next_1 (x y : Nat) (w : World) (hx : x < 8) (hy : y < 8) : Calls Tryd.prog 174 #[.agg (vrow 2 (spAt x y)), .int .i64 1] w fun e w' => e = .returned (.agg (vrow 2 (spAt ((x : Int) + 1) (y)))) ∧ Below w.heap.size w w' := by
  have zs := zero_spot
  have hB : Hid (Below w.heap.size w ((w.alloc (.cells (vrow 2 (spAt x y)) 33)).alloc (.cells (vrow 2 (spAt 0 0)) 33))) := (((Below.refl w.heap.size w).alloc (by simp <;> omega) _).alloc (by simp <;> omega) _)
  have R : Hid (((w.alloc (.cells (vrow 2 (spAt x y)) 33)).alloc (.cells (vrow 2 (spAt 0 0)) 33)).heap[(w.heap.size)]? = some (.cells (vrow 2 (spAt x y)) 33)) := heap_past _ _ _ _ (by first | omega | (simp <;> omega)) (heap_at _ _ _ (by simp))
  have Z : Hid (((w.alloc (.cells (vrow 2 (spAt x y)) 33)).alloc (.cells (vrow 2 (spAt 0 0)) 33)).heap[(w.heap.size + 1)]? = some (.cells (vrow 2 (spAt 0 0)) 33)) := heap_at _ _ _ (by simp)
  go_enter Tryd.func174, Tryd.ntmps174
  go_wp2_with (first
    | (refine wpList_load1 rfl 22 _ rfl (w.heap.size) 0 rfl 2 (spAt x y) _ _ Tryd.underlying22 rfl R.out (by omega) ?_; rw [spAt_0])
    | (refine wpList_store1 rfl 22 (.tmp 21) (.tmp 20) rfl w.heap.size 0 rfl 2 (spAt x y) (.int .i8 ((x : Int) + 1)) rfl 33 size_i8 R.out (by omega) rfl ?_; rw [over_x]; replace Z := Go.Lib.hid (row_set' (g := w.heap.size) (show w.heap.size + 1 ≠ w.heap.size by omega) Z.out (vrow 2 (spAt ((x : Int) + 1) ((y : Int))))); replace R := Go.Lib.hid (row_set R.out (vrow 2 (spAt ((x : Int) + 1) ((y : Int))))); replace hB := Go.Lib.hid (Below_setRow hB.out (Nat.le_refl w.heap.size) (vrow 2 (spAt ((x : Int) + 1) ((y : Int))))))
    | (refine wpList_loadall rfl 33 (.tmp 2) rfl _ rfl 2 (spAt ((x : Int) + 1) ((y : Int))) 33 _ Tryd.underlying33 rfl size_spot R.out ?_)
    | (refine wpList_storeall rfl 33 (.tmp 4) (.tmp 28) rfl (w.heap.size + 1) rfl 2 (spAt 0 0) (spAt ((x : Int) + 1) ((y : Int))) rfl 33 size_spot Z.out (fun i _ => spAt_one _ _ i) ?_; replace Z := Go.Lib.hid (row_set Z.out (vrow 2 (spAt ((x : Int) + 1) ((y : Int))))); replace hB := Go.Lib.hid (Below_setRow hB.out (show w.heap.size ≤ w.heap.size + 1 by omega) (vrow 2 (spAt ((x : Int) + 1) ((y : Int)))))))
  exact ret_row Tryd.results174 (w.heap.size + 1) 2 (spAt ((x : Int) + 1) ((y : Int))) 33 _ Tryd.underlying33 rfl size_spot rfl rfl Z.out ⟨rfl, hB.out⟩
set_option maxHeartbeats 1000000 in
theorem next_2 (x y : Nat) (w : World) (hx : x < 8) (hy : y < 8) : Calls Tryd.prog 174 #[.agg (vrow 2 (spAt x y)), .int .i64 2] w fun e w' => e = .returned (.agg (vrow 2 (spAt (x) ((y : Int) + 1)))) ∧ Below w.heap.size w w' := by
  have zs := zero_spot
  have hB : Hid (Below w.heap.size w ((w.alloc (.cells (vrow 2 (spAt x y)) 33)).alloc (.cells (vrow 2 (spAt 0 0)) 33))) := (((Below.refl w.heap.size w).alloc (by simp <;> omega) _).alloc (by simp <;> omega) _)
  have R : Hid (((w.alloc (.cells (vrow 2 (spAt x y)) 33)).alloc (.cells (vrow 2 (spAt 0 0)) 33)).heap[(w.heap.size)]? = some (.cells (vrow 2 (spAt x y)) 33)) := heap_past _ _ _ _ (by first | omega | (simp <;> omega)) (heap_at _ _ _ (by simp))
  have Z : Hid (((w.alloc (.cells (vrow 2 (spAt x y)) 33)).alloc (.cells (vrow 2 (spAt 0 0)) 33)).heap[(w.heap.size + 1)]? = some (.cells (vrow 2 (spAt 0 0)) 33)) := heap_at _ _ _ (by simp)
  go_enter Tryd.func174, Tryd.ntmps174
  go_wp2_with (first
    | (refine wpList_load1 rfl 22 _ rfl (w.heap.size) 1 rfl 2 (spAt x y) _ _ Tryd.underlying22 rfl R.out (by omega) ?_; rw [spAt_1])
    | (refine wpList_store1 rfl 22 (.tmp 27) (.tmp 26) rfl w.heap.size 1 rfl 2 (spAt x y) (.int .i8 ((y : Int) + 1)) rfl 33 size_i8 R.out (by omega) rfl ?_; rw [over_y]; replace Z := Go.Lib.hid (row_set' (g := w.heap.size) (show w.heap.size + 1 ≠ w.heap.size by omega) Z.out (vrow 2 (spAt ((x : Int)) ((y : Int) + 1)))); replace R := Go.Lib.hid (row_set R.out (vrow 2 (spAt ((x : Int)) ((y : Int) + 1)))); replace hB := Go.Lib.hid (Below_setRow hB.out (Nat.le_refl w.heap.size) (vrow 2 (spAt ((x : Int)) ((y : Int) + 1)))))
    | (refine wpList_loadall rfl 33 (.tmp 2) rfl _ rfl 2 (spAt ((x : Int)) ((y : Int) + 1)) 33 _ Tryd.underlying33 rfl size_spot R.out ?_)
    | (refine wpList_storeall rfl 33 (.tmp 4) (.tmp 28) rfl (w.heap.size + 1) rfl 2 (spAt 0 0) (spAt ((x : Int)) ((y : Int) + 1)) rfl 33 size_spot Z.out (fun i _ => spAt_one _ _ i) ?_; replace Z := Go.Lib.hid (row_set Z.out (vrow 2 (spAt ((x : Int)) ((y : Int) + 1)))); replace hB := Go.Lib.hid (Below_setRow hB.out (show w.heap.size ≤ w.heap.size + 1 by omega) (vrow 2 (spAt ((x : Int)) ((y : Int) + 1))))))
  exact ret_row Tryd.results174 (w.heap.size + 1) 2 (spAt ((x : Int)) ((y : Int) + 1)) 33 _ Tryd.underlying33 rfl size_spot rfl rfl Z.out ⟨rfl, hB.out⟩
set_option maxHeartbeats 1000000 in
theorem next_3 (x y : Nat) (w : World) (hx : x < 8) (hy : y < 8) : Calls Tryd.prog 174 #[.agg (vrow 2 (spAt x y)), .int .i64 3] w fun e w' => e = .returned (.agg (vrow 2 (spAt ((x : Int) - 1) (y)))) ∧ Below w.heap.size w w' := by
  have zs := zero_spot
  have hB : Hid (Below w.heap.size w ((w.alloc (.cells (vrow 2 (spAt x y)) 33)).alloc (.cells (vrow 2 (spAt 0 0)) 33))) := (((Below.refl w.heap.size w).alloc (by simp <;> omega) _).alloc (by simp <;> omega) _)
  have R : Hid (((w.alloc (.cells (vrow 2 (spAt x y)) 33)).alloc (.cells (vrow 2 (spAt 0 0)) 33)).heap[(w.heap.size)]? = some (.cells (vrow 2 (spAt x y)) 33)) := heap_past _ _ _ _ (by first | omega | (simp <;> omega)) (heap_at _ _ _ (by simp))
  have Z : Hid (((w.alloc (.cells (vrow 2 (spAt x y)) 33)).alloc (.cells (vrow 2 (spAt 0 0)) 33)).heap[(w.heap.size + 1)]? = some (.cells (vrow 2 (spAt 0 0)) 33)) := heap_at _ _ _ (by simp)
  go_enter Tryd.func174, Tryd.ntmps174
  go_wp2_with (first
    | (refine wpList_load1 rfl 22 _ rfl (w.heap.size) 0 rfl 2 (spAt x y) _ _ Tryd.underlying22 rfl R.out (by omega) ?_; rw [spAt_0])
    | (refine wpList_store1 rfl 22 (.tmp 9) (.tmp 8) rfl w.heap.size 0 rfl 2 (spAt x y) (.int .i8 ((x : Int) - 1)) rfl 33 size_i8 R.out (by omega) rfl ?_; rw [over_x]; replace Z := Go.Lib.hid (row_set' (g := w.heap.size) (show w.heap.size + 1 ≠ w.heap.size by omega) Z.out (vrow 2 (spAt ((x : Int) - 1) ((y : Int))))); replace R := Go.Lib.hid (row_set R.out (vrow 2 (spAt ((x : Int) - 1) ((y : Int))))); replace hB := Go.Lib.hid (Below_setRow hB.out (Nat.le_refl w.heap.size) (vrow 2 (spAt ((x : Int) - 1) ((y : Int))))))
    | (refine wpList_loadall rfl 33 (.tmp 2) rfl _ rfl 2 (spAt ((x : Int) - 1) ((y : Int))) 33 _ Tryd.underlying33 rfl size_spot R.out ?_)
    | (refine wpList_storeall rfl 33 (.tmp 4) (.tmp 28) rfl (w.heap.size + 1) rfl 2 (spAt 0 0) (spAt ((x : Int) - 1) ((y : Int))) rfl 33 size_spot Z.out (fun i _ => spAt_one _ _ i) ?_; replace Z := Go.Lib.hid (row_set Z.out (vrow 2 (spAt ((x : Int) - 1) ((y : Int))))); replace hB := Go.Lib.hid (Below_setRow hB.out (show w.heap.size ≤ w.heap.size + 1 by omega) (vrow 2 (spAt ((x : Int) - 1) ((y : Int)))))))
  exact ret_row Tryd.results174 (w.heap.size + 1) 2 (spAt ((x : Int) - 1) ((y : Int))) 33 _ Tryd.underlying33 rfl size_spot rfl rfl Z.out ⟨rfl, hB.out⟩
theorem next_any (x y k : Nat) (w : World) (hx : x < 8) (hy : y < 8) (hk : k < 4) : Calls Tryd.prog 174 #[.agg (vrow 2 (spAt x y)), .int .i64 k] w fun e w' => e = .returned (.agg (vrow 2 (spAt (nextX x k) (nextY y k)))) ∧ Below w.heap.size w w' := by
  have h : k = 0 ∨ k = 1 ∨ k = 2 ∨ k = 3 := by omega
  rcases h with rfl | rfl | rfl | rfl
  · exact next_0 x y w hx hy
  · exact next_1 x y w hx hy
  · exact next_2 x y w hx hy
  · exact next_3 x y w hx hy

set_option linter.unusedVariables false
set_option linter.unusedSimpArgs false
theorem wrap8 (n : Int) (h : -128 ≤ n ∧ n ≤ 127) : IntKind.i8.wrap n = n := IntWalk.i8_in n h
set_option maxHeartbeats 400000 in
theorem north_any (x y : Nat) (w : World) (hx : x < 8) (hy : y < 8) : Calls Tryd.prog 193 #[.agg (vrow 2 (spAt x y))] w fun e w' => e = .returned (.agg (vrow 2 (spAt (x) ((y : Int) - 1)))) ∧ Below w.heap.size w w' := by
  have zs := zero_spot
  have hB : Hid (Below w.heap.size w ((w.alloc (.cells (vrow 2 (spAt x y)) 33)).alloc (.cells (vrow 2 (spAt 0 0)) 33))) := (((Below.refl w.heap.size w).alloc (by simp <;> omega) _).alloc (by simp <;> omega) _)
  have R : Hid (((w.alloc (.cells (vrow 2 (spAt x y)) 33)).alloc (.cells (vrow 2 (spAt 0 0)) 33)).heap[(w.heap.size)]? = some (.cells (vrow 2 (spAt x y)) 33)) := heap_past _ _ _ _ (by first | omega | (simp <;> omega)) (heap_at _ _ _ (by simp))
  have Z : Hid (((w.alloc (.cells (vrow 2 (spAt x y)) 33)).alloc (.cells (vrow 2 (spAt 0 0)) 33)).heap[(w.heap.size + 1)]? = some (.cells (vrow 2 (spAt 0 0)) 33)) := heap_at _ _ _ (by simp)
  go_enter Tryd.func193, Tryd.ntmps193
  go_wp2_with (first
    | (refine wpList_load1 rfl 22 _ rfl (w.heap.size) _ rfl 2 (spAt x y) _ _ Tryd.underlying22 rfl R.out (by omega) ?_; (first | rw [spAt_0] | rw [spAt_1]))
    | (refine wpList_storeall rfl 33 (.tmp 2) (.tmp 8) rfl (w.heap.size + 1) rfl 2 (spAt 0 0) (spAt (x) ((y : Int) - 1)) rfl 33 size_spot Z.out (fun i _ => spAt_one _ _ i) ?_; replace Z := Go.Lib.hid (row_set Z.out (vrow 2 (spAt (x) ((y : Int) - 1)))); replace hB := Go.Lib.hid (Below_setRow hB.out (show w.heap.size ≤ w.heap.size + 1 by omega) (vrow 2 (spAt (x) ((y : Int) - 1))))))
  refine ret_row Tryd.results193 (w.heap.size + 1) 2 (spAt (x) ((y : Int) - 1)) 33 _ Tryd.underlying33 rfl size_spot rfl rfl Z.out ?_
  exact ⟨rfl, hB.out⟩
set_option maxHeartbeats 400000 in
theorem east_any (x y : Nat) (w : World) (hx : x < 8) (hy : y < 8) : Calls Tryd.prog 195 #[.agg (vrow 2 (spAt x y))] w fun e w' => e = .returned (.agg (vrow 2 (spAt ((x : Int) + 1) (y)))) ∧ Below w.heap.size w w' := by
  have zs := zero_spot
  have hB : Hid (Below w.heap.size w ((w.alloc (.cells (vrow 2 (spAt x y)) 33)).alloc (.cells (vrow 2 (spAt 0 0)) 33))) := (((Below.refl w.heap.size w).alloc (by simp <;> omega) _).alloc (by simp <;> omega) _)
  have R : Hid (((w.alloc (.cells (vrow 2 (spAt x y)) 33)).alloc (.cells (vrow 2 (spAt 0 0)) 33)).heap[(w.heap.size)]? = some (.cells (vrow 2 (spAt x y)) 33)) := heap_past _ _ _ _ (by first | omega | (simp <;> omega)) (heap_at _ _ _ (by simp))
  have Z : Hid (((w.alloc (.cells (vrow 2 (spAt x y)) 33)).alloc (.cells (vrow 2 (spAt 0 0)) 33)).heap[(w.heap.size + 1)]? = some (.cells (vrow 2 (spAt 0 0)) 33)) := heap_at _ _ _ (by simp)
  go_enter Tryd.func195, Tryd.ntmps195
  go_wp2_with (first
    | (refine wpList_load1 rfl 22 _ rfl (w.heap.size) _ rfl 2 (spAt x y) _ _ Tryd.underlying22 rfl R.out (by omega) ?_; (first | rw [spAt_0] | rw [spAt_1]))
    | (refine wpList_storeall rfl 33 (.tmp 2) (.tmp 8) rfl (w.heap.size + 1) rfl 2 (spAt 0 0) (spAt ((x : Int) + 1) (y)) rfl 33 size_spot Z.out (fun i _ => spAt_one _ _ i) ?_; replace Z := Go.Lib.hid (row_set Z.out (vrow 2 (spAt ((x : Int) + 1) (y)))); replace hB := Go.Lib.hid (Below_setRow hB.out (show w.heap.size ≤ w.heap.size + 1 by omega) (vrow 2 (spAt ((x : Int) + 1) (y))))))
  refine ret_row Tryd.results195 (w.heap.size + 1) 2 (spAt ((x : Int) + 1) (y)) 33 _ Tryd.underlying33 rfl size_spot rfl rfl Z.out ?_
  exact ⟨rfl, hB.out⟩
set_option maxHeartbeats 400000 in
theorem south_any (x y : Nat) (w : World) (hx : x < 8) (hy : y < 8) : Calls Tryd.prog 196 #[.agg (vrow 2 (spAt x y))] w fun e w' => e = .returned (.agg (vrow 2 (spAt (x) ((y : Int) + 1)))) ∧ Below w.heap.size w w' := by
  have zs := zero_spot
  have hB : Hid (Below w.heap.size w ((w.alloc (.cells (vrow 2 (spAt x y)) 33)).alloc (.cells (vrow 2 (spAt 0 0)) 33))) := (((Below.refl w.heap.size w).alloc (by simp <;> omega) _).alloc (by simp <;> omega) _)
  have R : Hid (((w.alloc (.cells (vrow 2 (spAt x y)) 33)).alloc (.cells (vrow 2 (spAt 0 0)) 33)).heap[(w.heap.size)]? = some (.cells (vrow 2 (spAt x y)) 33)) := heap_past _ _ _ _ (by first | omega | (simp <;> omega)) (heap_at _ _ _ (by simp))
  have Z : Hid (((w.alloc (.cells (vrow 2 (spAt x y)) 33)).alloc (.cells (vrow 2 (spAt 0 0)) 33)).heap[(w.heap.size + 1)]? = some (.cells (vrow 2 (spAt 0 0)) 33)) := heap_at _ _ _ (by simp)
  go_enter Tryd.func196, Tryd.ntmps196
  go_wp2_with (first
    | (refine wpList_load1 rfl 22 _ rfl (w.heap.size) _ rfl 2 (spAt x y) _ _ Tryd.underlying22 rfl R.out (by omega) ?_; (first | rw [spAt_0] | rw [spAt_1]))
    | (refine wpList_storeall rfl 33 (.tmp 2) (.tmp 8) rfl (w.heap.size + 1) rfl 2 (spAt 0 0) (spAt (x) ((y : Int) + 1)) rfl 33 size_spot Z.out (fun i _ => spAt_one _ _ i) ?_; replace Z := Go.Lib.hid (row_set Z.out (vrow 2 (spAt (x) ((y : Int) + 1)))); replace hB := Go.Lib.hid (Below_setRow hB.out (show w.heap.size ≤ w.heap.size + 1 by omega) (vrow 2 (spAt (x) ((y : Int) + 1))))))
  refine ret_row Tryd.results196 (w.heap.size + 1) 2 (spAt (x) ((y : Int) + 1)) 33 _ Tryd.underlying33 rfl size_spot rfl rfl Z.out ?_
  exact ⟨rfl, hB.out⟩
set_option maxHeartbeats 400000 in
theorem west_any (x y : Nat) (w : World) (hx : x < 8) (hy : y < 8) : Calls Tryd.prog 194 #[.agg (vrow 2 (spAt x y))] w fun e w' => e = .returned (.agg (vrow 2 (spAt ((x : Int) - 1) (y)))) ∧ Below w.heap.size w w' := by
  have zs := zero_spot
  have hB : Hid (Below w.heap.size w ((w.alloc (.cells (vrow 2 (spAt x y)) 33)).alloc (.cells (vrow 2 (spAt 0 0)) 33))) := (((Below.refl w.heap.size w).alloc (by simp <;> omega) _).alloc (by simp <;> omega) _)
  have R : Hid (((w.alloc (.cells (vrow 2 (spAt x y)) 33)).alloc (.cells (vrow 2 (spAt 0 0)) 33)).heap[(w.heap.size)]? = some (.cells (vrow 2 (spAt x y)) 33)) := heap_past _ _ _ _ (by first | omega | (simp <;> omega)) (heap_at _ _ _ (by simp))
  have Z : Hid (((w.alloc (.cells (vrow 2 (spAt x y)) 33)).alloc (.cells (vrow 2 (spAt 0 0)) 33)).heap[(w.heap.size + 1)]? = some (.cells (vrow 2 (spAt 0 0)) 33)) := heap_at _ _ _ (by simp)
  go_enter Tryd.func194, Tryd.ntmps194
  go_wp2_with (first
    | (refine wpList_load1 rfl 22 _ rfl (w.heap.size) _ rfl 2 (spAt x y) _ _ Tryd.underlying22 rfl R.out (by omega) ?_; (first | rw [spAt_0] | rw [spAt_1]))
    | (refine wpList_storeall rfl 33 (.tmp 2) (.tmp 8) rfl (w.heap.size + 1) rfl 2 (spAt 0 0) (spAt ((x : Int) - 1) (y)) rfl 33 size_spot Z.out (fun i _ => spAt_one _ _ i) ?_; replace Z := Go.Lib.hid (row_set Z.out (vrow 2 (spAt ((x : Int) - 1) (y)))); replace hB := Go.Lib.hid (Below_setRow hB.out (show w.heap.size ≤ w.heap.size + 1 by omega) (vrow 2 (spAt ((x : Int) - 1) (y))))))
  refine ret_row Tryd.results194 (w.heap.size + 1) 2 (spAt ((x : Int) - 1) (y)) 33 _ Tryd.underlying33 rfl size_spot rfl rfl Z.out ?_
  exact ⟨rfl, hB.out⟩
/-- the ways, by number -/
def sideId : Nat → Nat
  | 0 => 193
  | 1 => 195
  | 2 => 196
  | _ => 194
def sideF (k : Nat) : Value := .func (.func (sideId k)) #[] #[]
theorem side_any (x y k : Nat) (w : World) (hx : x < 8) (hy : y < 8) (hk : k < 4) : Calls Tryd.prog (sideId k) #[.agg (vrow 2 (spAt x y))] w fun e w' => e = .returned (.agg (vrow 2 (spAt (nextX x k) (nextY y k)))) ∧ Below w.heap.size w w' := by
  have : k = 0 ∨ k = 1 ∨ k = 2 ∨ k = 3 := by omega
  rcases this with rfl | rfl | rfl | rfl
  · exact north_any x y w hx hy
  · exact east_any x y w hx hy
  · exact south_any x y w hx hy
  · exact west_any x y w hx hy
theorem World.heap_size_alloc_hid (w : World) (o : Obj) : Hid ((w.alloc o).heap.size = w.heap.size + 1) := by simp [Hid]
theorem side_in (k : Nat) (hk : k < 4) (a : Value) (w : World) : (callFunc (sideId k) #[a]).run Tryd.prog w = .ok (.enter (sideId k) #[a]) w := by
  have i0 : ∀ (a : Value) (w : World), (callFunc 193 #[a]).run Tryd.prog w = .ok (.enter 193 #[a]) w := fun _ _ => by kernel_rfl
  have i1 : ∀ (a : Value) (w : World), (callFunc 195 #[a]).run Tryd.prog w = .ok (.enter 195 #[a]) w := fun _ _ => by kernel_rfl
  have i2 : ∀ (a : Value) (w : World), (callFunc 196 #[a]).run Tryd.prog w = .ok (.enter 196 #[a]) w := fun _ _ => by kernel_rfl
  have i3 : ∀ (a : Value) (w : World), (callFunc 194 #[a]).run Tryd.prog w = .ok (.enter 194 #[a]) w := fun _ _ => by kernel_rfl
  have : k = 0 ∨ k = 1 ∨ k = 2 ∨ k = 3 := by omega
  rcases this with rfl | rfl | rfl | rfl
  · exact i0 a w
  · exact i1 a w
  · exact i2 a w
  · exact i3 a w
end Go.Proofs.YtfgcpiipndhllaaDoor
