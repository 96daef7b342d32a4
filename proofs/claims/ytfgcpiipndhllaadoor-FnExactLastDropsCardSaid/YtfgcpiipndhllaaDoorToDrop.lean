import Derived.Test.YtfgcpiipndhllaaDoorDrop7
namespace Go.Proofs.YtfgcpiipndhllaaDoor
open Go.RowKit
set_option maxRecDepth 100000
set_option linter.unusedVariables false
set_option linter.unusedSimpArgs false
theorem size_ldr : (Tryd.prog.info? 60).map (·.size) = some 3 := by kernel_rfl
theorem rw_ldr : (Tryd.prog.underlying 60).map (·.isRow) = some true := by kernel_rfl
theorem size_u8D : (Tryd.prog.info? 5).map (·.size) = some 1 := by kernel_rfl
theorem zero_drD : ∀ w, (zeroValue 66).run Tryd.prog w = .ok (.agg (vrow 3 (drAt 0 0 0))) w := fun _ => by kernel_rfl
theorem toSpD_any (x y : Int) (w : World) : Calls Tryd.prog 24 #[.agg #[.int .i8 x, .int .i8 y]] w fun e w' => e = .returned (.agg #[.int .i8 x, .int .i8 y]) ∧ Below w.heap.size w w' := by
  go_enter Tryd.func24, Tryd.ntmps24
  go_wp2
  refine ret_row Tryd.results24 _ 2 (spAt x y) 33 _ Tryd.underlying33 rfl size_spot rfl rfl (heap_past _ _ _ _ (by simp) (heap_at _ _ _ (by simp))) ?_
  exact ⟨rfl, (((Below.refl _ _).alloc (Nat.le_refl _) _).alloc (by simp) _).alloc (by simp; omega) _⟩
theorem dr_over1 (x y n a b c : Int) : vrow 3 (over (drAt a b c) 0 2 (spAt x y)) = vrow 3 (drAt x y c) := rfl
theorem dr_over2 (x y n c : Int) : vrow 3 (over (drAt x y c) 2 1 fun _ => .int .u8 n) = vrow 3 (drAt x y n) := rfl
theorem spAt_oneD (x y : Int) (i : Nat) : (spAt x y i).oneCell' = true := by unfold spAt; split <;> rfl
set_option maxHeartbeats 2000000 in
theorem toDrop_any (x y n : Int) (w : World) : Calls Tryd.prog 29 #[.agg #[.int .i8 x, .int .i8 y, .int .u8 n]] w fun e w' => e = .returned (.agg (vrow 3 (drAt x y n))) ∧ Below w.heap.size w w' := by
  have HT := Go.Lib.hid fun w => toSpD_any x y w
  have zz := zero_drD
  go_enter Tryd.func29, Tryd.ntmps29
  have hB : Hid (Below w.heap.size w (((w.alloc (.cells #[.int .i8 x, .int .i8 y, .int .u8 n] 60)).alloc (.cells (vrow 3 (drAt 0 0 0)) 66)).alloc (.cells (vrow 3 (drAt 0 0 0)) 66))) := Go.Lib.hid ((((Below.refl w.heap.size w).alloc (by simp <;> omega) _).alloc (by simp <;> omega) _).alloc (by simp <;> omega) _)
  have L : Hid ((((w.alloc (.cells #[.int .i8 x, .int .i8 y, .int .u8 n] 60)).alloc (.cells (vrow 3 (drAt 0 0 0)) 66)).alloc (.cells (vrow 3 (drAt 0 0 0)) 66)).heap[w.heap.size]? = some (.cells (vrow 3 (drAt x y n)) 60)) := heap_past _ _ _ _ (by simp <;> omega) (heap_past _ _ _ _ (by simp <;> omega) (heap_at _ _ _ (by simp)))
  have Z : Hid ((((w.alloc (.cells #[.int .i8 x, .int .i8 y, .int .u8 n] 60)).alloc (.cells (vrow 3 (drAt 0 0 0)) 66)).alloc (.cells (vrow 3 (drAt 0 0 0)) 66)).heap[w.heap.size + 1]? = some (.cells (vrow 3 (drAt 0 0 0)) 66)) := heap_past _ _ _ _ (by simp <;> omega) (heap_at _ _ _ (by simp))
  have D : Hid ((((w.alloc (.cells #[.int .i8 x, .int .i8 y, .int .u8 n] 60)).alloc (.cells (vrow 3 (drAt 0 0 0)) 66)).alloc (.cells (vrow 3 (drAt 0 0 0)) 66)).heap[w.heap.size + 1 + 1]? = some (.cells (vrow 3 (drAt 0 0 0)) 66)) := heap_at _ _ _ (by simp)
  go_wp2_with (first
    | go_skip
    | (go_at_call 24; ((refine (HT.out _).mono ?_); rintro o w1 ⟨rfl, hb⟩; replace L := Go.Lib.hid (row_next hb L.out); replace Z := Go.Lib.hid (row_next hb Z.out); replace D := Go.Lib.hid (row_next hb D.out); replace hB := Go.Lib.hid (below_next hB.out hb); clear hb))
    | ((with_reducible refine wlOp (.store 33 (.tmp 7) (.tmp 6)) rfl ?_); refine wpList_storemid rfl 33 (.tmp 7) (.tmp 6) rfl (w.heap.size + 1 + 1) 0 rfl 3 2 (drAt 0 0 0) (spAt x y) rfl 66 size_spot D.out (by omega) (fun i _ => spAt_oneD _ _ i) ?_; rw [dr_over1 x y n 0 0 0]; replace L := Go.Lib.hid (row_set' (g := w.heap.size + 1 + 1) (by omega) L.out (vrow 3 (drAt x y 0))); replace Z := Go.Lib.hid (row_set' (g := w.heap.size + 1 + 1) (by omega) Z.out (vrow 3 (drAt x y 0))); replace D := Go.Lib.hid (row_set D.out (vrow 3 (drAt x y 0))); replace hB := Go.Lib.hid (Below_setRow hB.out (g := w.heap.size + 1 + 1) (by omega) (vrow 3 (drAt x y 0))); generalize w1.setRow _ _ = w2 at L Z D hB ⊢)
    | ((with_reducible refine wlAt 9 rfl ?_); refine wpList_load1 rfl 5 (.tmp 8) rfl w.heap.size 2 rfl 3 (drAt x y n) 60 _ Tryd.underlying5 rfl L.out (by omega) ?_)
    | ((with_reducible refine wlOp (.store 5 (.tmp 10) (.tmp 9)) rfl ?_); refine wpList_store1 rfl 5 (.tmp 10) (.tmp 9) rfl (w.heap.size + 1 + 1) 2 rfl 3 (drAt x y 0) (.int .u8 n) rfl 66 size_u8D D.out (by omega) rfl ?_; rw [dr_over2]; replace Z := Go.Lib.hid (row_set' (g := w.heap.size + 1 + 1) (by omega) Z.out (vrow 3 (drAt x y n))); replace hB := Go.Lib.hid (Below_setRow hB.out (g := w.heap.size + 1 + 1) (by omega) (vrow 3 (drAt x y n))); replace D := Go.Lib.hid (row_set D.out (vrow 3 (drAt x y n))); clear L; generalize w2.setRow _ _ = w3 at Z D hB ⊢)
    | ((with_reducible refine wlAt 11 rfl ?_); refine wpList_loadall rfl 66 (.tmp 3) rfl (w.heap.size + 1 + 1) rfl 3 (drAt x y n) 66 _ Tryd.underlying66 rfl size_dr D.out ?_)
    | ((with_reducible refine wlOp (.store 66 (.tmp 2) (.tmp 11)) rfl ?_); refine wpList_storeall rfl 66 (.tmp 2) (.tmp 11) rfl (w.heap.size + 1) rfl 3 (drAt 0 0 0) (drAt x y n) rfl 66 size_dr Z.out (fun i _ => drAt_one _ _ _ i) ?_; replace hB := Go.Lib.hid (Below_setRow hB.out (g := w.heap.size + 1) (by omega) (vrow 3 (drAt x y n))); replace Z := Go.Lib.hid (row_set Z.out (vrow 3 (drAt x y n)))))
  exact ret_row Tryd.results29 (w.heap.size + 1) 3 (drAt x y n) 66 _ Tryd.underlying66 rfl size_dr rfl rfl Z.out ⟨rfl, hB.out⟩
end Go.Proofs.YtfgcpiipndhllaaDoor
