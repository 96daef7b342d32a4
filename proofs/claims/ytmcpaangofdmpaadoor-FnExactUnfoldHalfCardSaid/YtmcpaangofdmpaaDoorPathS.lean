import Derived.Deep.RegionHeld3
import Derived.Test.YtmcpaangofdmpaaDoorPath
namespace Go.Proofs.YtmcpaangofdmpaaDoor
open Go.RowKit
set_option maxRecDepth 100000
set_option linter.unusedVariables false
set_option linter.unusedSimpArgs false
theorem zero_sp2 : ∀ w, (zeroValue 111).run Tryd.prog w = .ok (.agg (vrow 2 (spAt 0 0))) w := fun _ => by kernel_rfl
set_option maxHeartbeats 400000 in
theorem eqSp_any (p q : Int) (w : World) : Calls Tryd.prog 92 #[.agg (vrow 2 (spAt p q)), .agg (vrow 2 (spAt p q))] w fun e w' => e = .returned (.bool true) ∧ Below w.heap.size w w' := by
  have hB : Hid (Below w.heap.size w ((w.alloc (.cells (vrow 2 (spAt p q)) 111)).alloc (.cells (vrow 2 (spAt p q)) 111))) := (((Below.refl w.heap.size w).alloc (by simp <;> omega) _).alloc (by simp <;> omega) _)
  have A : Hid (((w.alloc (.cells (vrow 2 (spAt p q)) 111)).alloc (.cells (vrow 2 (spAt p q)) 111)).heap[(w.heap.size)]? = some (.cells (vrow 2 (spAt p q)) 111)) := heap_past _ _ _ _ (by first | omega | (simp <;> omega)) (heap_at _ _ _ (by simp))
  have R : Hid (((w.alloc (.cells (vrow 2 (spAt p q)) 111)).alloc (.cells (vrow 2 (spAt p q)) 111)).heap[(w.heap.size + 1)]? = some (.cells (vrow 2 (spAt p q)) 111)) := heap_at _ _ _ (by simp)
  go_enter Tryd.func92, Tryd.ntmps92
  go_wp2_with (first
    | (refine list_at 6 rfl ?_; intro W hW; rw [hW] at hB A R; clear hW; have A' := Go.Lib.hid (cls_row' A.out); have R' := Go.Lib.hid (cls_row' R.out); (repeat (first | go_big_quiet_skip | (refine wpQuiet_load1 22 _ rfl (by first | exact want_n rfl | exact want_g _ _ _ rfl rfl rfl) (w.heap.size) _ rfl 2 (spAt p q) _ rw_i8 A'.out (by omega) ?_; (first | rw [spAt_0] | rw [spAt_1]); simp only [Act.put, List.setIfInBounds_toArray, List.set_cons_succ, List.set_cons_zero]) | (refine wpQuiet_load1 22 _ rfl (by first | exact want_n rfl | exact want_g _ _ _ rfl rfl rfl) (w.heap.size + 1) _ rfl 2 (spAt p q) _ rw_i8 R'.out (by omega) ?_; (first | rw [spAt_0] | rw [spAt_1]); simp only [Act.put, List.setIfInBounds_toArray, List.set_cons_succ, List.set_cons_zero]) | go_big_quiet_step (fail))); refine wpQuiet_nil ?_; intro Wn hb; replace A := Go.Lib.hid (row_next hb A.out); replace R := Go.Lib.hid (row_next hb R.out); replace hB := Go.Lib.hid (below_next hB.out hb); clear hb A' R')
    | (refine list_at 11 rfl ?_; intro W hW; rw [hW] at hB A R; clear hW; have A' := Go.Lib.hid (cls_row' A.out); have R' := Go.Lib.hid (cls_row' R.out); (repeat (first | go_big_quiet_skip | (refine wpQuiet_load1 22 _ rfl (by first | exact want_n rfl | exact want_g _ _ _ rfl rfl rfl) (w.heap.size) _ rfl 2 (spAt p q) _ rw_i8 A'.out (by omega) ?_; (first | rw [spAt_0] | rw [spAt_1]); simp only [Act.put, List.setIfInBounds_toArray, List.set_cons_succ, List.set_cons_zero]) | (refine wpQuiet_load1 22 _ rfl (by first | exact want_n rfl | exact want_g _ _ _ rfl rfl rfl) (w.heap.size + 1) _ rfl 2 (spAt p q) _ rw_i8 R'.out (by omega) ?_; (first | rw [spAt_0] | rw [spAt_1]); simp only [Act.put, List.setIfInBounds_toArray, List.set_cons_succ, List.set_cons_zero]) | go_big_quiet_step (fail))); refine wpQuiet_nil ?_; intro Wn hb; replace A := Go.Lib.hid (row_next hb A.out); replace R := Go.Lib.hid (row_next hb R.out); replace hB := Go.Lib.hid (below_next hB.out hb); clear hb A' R'))
  go_ret
  exact ⟨rfl, hB.out⟩
theorem spAt_one2 (x y : Int) (i : Nat) : (spAt x y i).oneCell' = true := by unfold spAt; split <;> rfl
end Go.Proofs.YtmcpaangofdmpaaDoor
