import Derived.Deep.RegionHeld3
import Derived.Test.YtfgcpiipndhllaaDoorPath
namespace Go.Proofs.YtfgcpiipndhllaaDoor
open Go.RowKit
set_option maxRecDepth 100000
set_option linter.unusedVariables false
set_option linter.unusedSimpArgs false
theorem zero_sp2 : ∀ w, (zeroValue 33).run Tryd.prog w = .ok (.agg (vrow 2 (spAt 0 0))) w := fun _ => by kernel_rfl
theorem toSp_any (x y : Int) (w : World) : Calls Tryd.prog 24 #[.agg #[.int .i8 x, .int .i8 y]] w fun e w' => e = .returned (.agg #[.int .i8 x, .int .i8 y]) ∧ Below w.heap.size w w' := by
  go_enter Tryd.func24, Tryd.ntmps24
  go_wp2
  refine ret_row Tryd.results24 _ 2 (spAt x y) 33 _ Tryd.underlying33 rfl size_spot rfl rfl (heap_past _ _ _ _ (by simp) (heap_at _ _ _ (by simp))) ?_
  exact ⟨rfl, (((Below.refl _ _).alloc (Nat.le_refl _) _).alloc (by simp) _).alloc (by simp; omega) _⟩
set_option maxHeartbeats 400000 in
theorem eqSp_any (p q : Int) (w : World) : Calls Tryd.prog 17 #[.agg (vrow 2 (spAt p q)), .agg (vrow 2 (spAt p q))] w fun e w' => e = .returned (.bool true) ∧ Below w.heap.size w w' := by
  have hB : Hid (Below w.heap.size w ((w.alloc (.cells (vrow 2 (spAt p q)) 33)).alloc (.cells (vrow 2 (spAt p q)) 33))) := (((Below.refl w.heap.size w).alloc (by simp <;> omega) _).alloc (by simp <;> omega) _)
  have A : Hid (((w.alloc (.cells (vrow 2 (spAt p q)) 33)).alloc (.cells (vrow 2 (spAt p q)) 33)).heap[(w.heap.size)]? = some (.cells (vrow 2 (spAt p q)) 33)) := heap_past _ _ _ _ (by first | omega | (simp <;> omega)) (heap_at _ _ _ (by simp))
  have R : Hid (((w.alloc (.cells (vrow 2 (spAt p q)) 33)).alloc (.cells (vrow 2 (spAt p q)) 33)).heap[(w.heap.size + 1)]? = some (.cells (vrow 2 (spAt p q)) 33)) := heap_at _ _ _ (by simp)
  go_enter Tryd.func17, Tryd.ntmps17
  go_wp2_with (first
    | (refine list_at 6 rfl ?_; intro W hW; rw [hW] at hB A R; clear hW; have A' := Go.Lib.hid (cls_row' A.out); have R' := Go.Lib.hid (cls_row' R.out); (repeat (first | go_big_quiet_skip | (refine wpQuiet_load1 22 _ rfl (by first | exact want_n rfl | exact want_g _ _ _ rfl rfl rfl) (w.heap.size) _ rfl 2 (spAt p q) _ rw_i8 A'.out (by omega) ?_; (first | rw [spAt_0] | rw [spAt_1]); simp only [Act.put, List.setIfInBounds_toArray, List.set_cons_succ, List.set_cons_zero]) | (refine wpQuiet_load1 22 _ rfl (by first | exact want_n rfl | exact want_g _ _ _ rfl rfl rfl) (w.heap.size + 1) _ rfl 2 (spAt p q) _ rw_i8 R'.out (by omega) ?_; (first | rw [spAt_0] | rw [spAt_1]); simp only [Act.put, List.setIfInBounds_toArray, List.set_cons_succ, List.set_cons_zero]) | go_big_quiet_step (fail))); refine wpQuiet_nil ?_; intro Wn hb; replace A := Go.Lib.hid (row_next hb A.out); replace R := Go.Lib.hid (row_next hb R.out); replace hB := Go.Lib.hid (below_next hB.out hb); clear hb A' R')
    | (refine list_at 11 rfl ?_; intro W hW; rw [hW] at hB A R; clear hW; have A' := Go.Lib.hid (cls_row' A.out); have R' := Go.Lib.hid (cls_row' R.out); (repeat (first | go_big_quiet_skip | (refine wpQuiet_load1 22 _ rfl (by first | exact want_n rfl | exact want_g _ _ _ rfl rfl rfl) (w.heap.size) _ rfl 2 (spAt p q) _ rw_i8 A'.out (by omega) ?_; (first | rw [spAt_0] | rw [spAt_1]); simp only [Act.put, List.setIfInBounds_toArray, List.set_cons_succ, List.set_cons_zero]) | (refine wpQuiet_load1 22 _ rfl (by first | exact want_n rfl | exact want_g _ _ _ rfl rfl rfl) (w.heap.size + 1) _ rfl 2 (spAt p q) _ rw_i8 R'.out (by omega) ?_; (first | rw [spAt_0] | rw [spAt_1]); simp only [Act.put, List.setIfInBounds_toArray, List.set_cons_succ, List.set_cons_zero]) | go_big_quiet_step (fail))); refine wpQuiet_nil ?_; intro Wn hb; replace A := Go.Lib.hid (row_next hb A.out); replace R := Go.Lib.hid (row_next hb R.out); replace hB := Go.Lib.hid (below_next hB.out hb); clear hb A' R'))
  go_ret
  exact ⟨rfl, hB.out⟩
theorem spAt_one2 (x y : Int) (i : Nat) : (spAt x y i).oneCell' = true := by unfold spAt; split <;> rfl
end Go.Proofs.YtfgcpiipndhllaaDoor
