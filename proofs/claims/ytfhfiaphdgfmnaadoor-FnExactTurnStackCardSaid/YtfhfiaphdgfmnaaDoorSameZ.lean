import Derived.Deep.RegionHeld3
import Derived.Test.YtfhfiaphdgfmnaaDoorG1
namespace Go.Proofs.YtfhfiaphdgfmnaaDoor
open Go.RowKit
set_option maxRecDepth 100000
set_option linter.unusedVariables false
set_option linter.unusedSimpArgs false
theorem same_w (a b : Sh) (w : World) (hw : a.wide ≠ b.wide) : Calls Tryd.prog 82 #[.agg a.row, .agg b.row] w fun e w' => e = .returned (.bool false) ∧ Below w.heap.size w w' := by
  have t1 : (a.wide == b.wide) = false := by simpa using hw
  have t2 : decide (a.wide = b.wide) = false := by simpa using hw
  have hB : Hid (Below w.heap.size w ((w.alloc (.cells (vrow 266 a.at) 39)).alloc (.cells (vrow 266 b.at) 39))) := (((Below.refl w.heap.size w).alloc (by simp <;> omega) _).alloc (by simp <;> omega) _)
  have P : Hid (((w.alloc (.cells (vrow 266 a.at) 39)).alloc (.cells (vrow 266 b.at) 39)).heap[(w.heap.size)]? = some (.cells (vrow 266 a.at) 39)) := heap_past _ _ _ _ (by first | omega | (simp <;> omega)) (heap_at _ _ _ (by simp))
  have R : Hid (((w.alloc (.cells (vrow 266 a.at) 39)).alloc (.cells (vrow 266 b.at) 39)).heap[(w.heap.size + 1)]? = some (.cells (vrow 266 b.at) 39)) := heap_at _ _ _ (by simp)
  clear hw
  go_enter Tryd.func82, Tryd.ntmps82
  go_wp2_with (first | (refine list_at 6 rfl ?_; intro W hW; rw [hW] at hB P R; clear hW; have P' := Go.Lib.hid (cls_row' P.out); have R' := Go.Lib.hid (cls_row' R.out); (repeat (first | go_big_quiet_skip | (refine wpQuiet_load1 23 _ rfl (by first | exact want_n rfl | exact want_g _ _ _ rfl rfl rfl) (w.heap.size) _ rfl 266 a.at _ rw_i8 P'.out (by omega) ?_; (first | rw [Sh.at_0] | rw [Sh.at_1]); simp only [Act.put, List.setIfInBounds_toArray, List.set_cons_succ, List.set_cons_zero]) | (refine wpQuiet_load1 23 _ rfl (by first | exact want_n rfl | exact want_g _ _ _ rfl rfl rfl) (w.heap.size + 1) _ rfl 266 b.at _ rw_i8 R'.out (by omega) ?_; (first | rw [Sh.at_0] | rw [Sh.at_1]); simp only [Act.put, List.setIfInBounds_toArray, List.set_cons_succ, List.set_cons_zero]) | go_big_quiet_step (fail))); refine wpQuiet_nil ?_; intro Wn hb; replace P := Go.Lib.hid (row_next hb P.out); replace R := Go.Lib.hid (row_next hb R.out); replace hB := Go.Lib.hid (below_next hB.out hb); clear hb P' R'))
  go_ret
  exact ⟨rfl, hB.out⟩
theorem same_h (a b : Sh) (w : World) (hw : a.wide = b.wide) (hh : a.high ≠ b.high) : Calls Tryd.prog 82 #[.agg a.row, .agg b.row] w fun e w' => e = .returned (.bool false) ∧ Below w.heap.size w w' := by
  have t1 : (a.wide == b.wide) = true := by simpa using hw
  have t2 : (a.high == b.high) = false := by simpa using hh
  have t3 : decide (a.wide = b.wide) = true := by simpa using hw
  have t4 : decide (a.high = b.high) = false := by simpa using hh
  have hB : Hid (Below w.heap.size w ((w.alloc (.cells (vrow 266 a.at) 39)).alloc (.cells (vrow 266 b.at) 39))) := (((Below.refl w.heap.size w).alloc (by simp <;> omega) _).alloc (by simp <;> omega) _)
  have P : Hid (((w.alloc (.cells (vrow 266 a.at) 39)).alloc (.cells (vrow 266 b.at) 39)).heap[(w.heap.size)]? = some (.cells (vrow 266 a.at) 39)) := heap_past _ _ _ _ (by first | omega | (simp <;> omega)) (heap_at _ _ _ (by simp))
  have R : Hid (((w.alloc (.cells (vrow 266 a.at) 39)).alloc (.cells (vrow 266 b.at) 39)).heap[(w.heap.size + 1)]? = some (.cells (vrow 266 b.at) 39)) := heap_at _ _ _ (by simp)
  clear hw hh
  go_enter Tryd.func82, Tryd.ntmps82
  go_wp2_with (first | (refine list_at 6 rfl ?_; intro W hW; rw [hW] at hB P R; clear hW; have P' := Go.Lib.hid (cls_row' P.out); have R' := Go.Lib.hid (cls_row' R.out); (repeat (first | go_big_quiet_skip | (refine wpQuiet_load1 23 _ rfl (by first | exact want_n rfl | exact want_g _ _ _ rfl rfl rfl) (w.heap.size) _ rfl 266 a.at _ rw_i8 P'.out (by omega) ?_; (first | rw [Sh.at_0] | rw [Sh.at_1]); simp only [Act.put, List.setIfInBounds_toArray, List.set_cons_succ, List.set_cons_zero]) | (refine wpQuiet_load1 23 _ rfl (by first | exact want_n rfl | exact want_g _ _ _ rfl rfl rfl) (w.heap.size + 1) _ rfl 266 b.at _ rw_i8 R'.out (by omega) ?_; (first | rw [Sh.at_0] | rw [Sh.at_1]); simp only [Act.put, List.setIfInBounds_toArray, List.set_cons_succ, List.set_cons_zero]) | go_big_quiet_step (fail))); refine wpQuiet_nil ?_; intro Wn hb; replace P := Go.Lib.hid (row_next hb P.out); replace R := Go.Lib.hid (row_next hb R.out); replace hB := Go.Lib.hid (below_next hB.out hb); clear hb P' R'))
  go_ret
  exact ⟨rfl, hB.out⟩
theorem same_y (a b : Sh) (w : World) (hw : a.wide = b.wide) (hh : a.high = b.high) : Calls Tryd.prog 82 #[.agg a.row, .agg b.row] w fun e w' => e = .returned (.bool true) ∧ Below w.heap.size w w' := by
  have t1 : (a.wide == b.wide) = true := by simpa using hw
  have t2 : (a.high == b.high) = true := by simpa using hh
  have t3 : decide (a.wide = b.wide) = true := by simpa using hw
  have t4 : decide (a.high = b.high) = true := by simpa using hh
  have hB : Hid (Below w.heap.size w ((w.alloc (.cells (vrow 266 a.at) 39)).alloc (.cells (vrow 266 b.at) 39))) := (((Below.refl w.heap.size w).alloc (by simp <;> omega) _).alloc (by simp <;> omega) _)
  have P : Hid (((w.alloc (.cells (vrow 266 a.at) 39)).alloc (.cells (vrow 266 b.at) 39)).heap[(w.heap.size)]? = some (.cells (vrow 266 a.at) 39)) := heap_past _ _ _ _ (by first | omega | (simp <;> omega)) (heap_at _ _ _ (by simp))
  have R : Hid (((w.alloc (.cells (vrow 266 a.at) 39)).alloc (.cells (vrow 266 b.at) 39)).heap[(w.heap.size + 1)]? = some (.cells (vrow 266 b.at) 39)) := heap_at _ _ _ (by simp)
  clear hw hh
  go_enter Tryd.func82, Tryd.ntmps82
  go_wp2_with (first | (refine list_at 6 rfl ?_; intro W hW; rw [hW] at hB P R; clear hW; have P' := Go.Lib.hid (cls_row' P.out); have R' := Go.Lib.hid (cls_row' R.out); (repeat (first | go_big_quiet_skip | (refine wpQuiet_load1 23 _ rfl (by first | exact want_n rfl | exact want_g _ _ _ rfl rfl rfl) (w.heap.size) _ rfl 266 a.at _ rw_i8 P'.out (by omega) ?_; (first | rw [Sh.at_0] | rw [Sh.at_1]); simp only [Act.put, List.setIfInBounds_toArray, List.set_cons_succ, List.set_cons_zero]) | (refine wpQuiet_load1 23 _ rfl (by first | exact want_n rfl | exact want_g _ _ _ rfl rfl rfl) (w.heap.size + 1) _ rfl 266 b.at _ rw_i8 R'.out (by omega) ?_; (first | rw [Sh.at_0] | rw [Sh.at_1]); simp only [Act.put, List.setIfInBounds_toArray, List.set_cons_succ, List.set_cons_zero]) | go_big_quiet_step (fail))); refine wpQuiet_nil ?_; intro Wn hb; replace P := Go.Lib.hid (row_next hb P.out); replace R := Go.Lib.hid (row_next hb R.out); replace hB := Go.Lib.hid (below_next hB.out hb); clear hb P' R'))
  go_ret
  exact ⟨rfl, hB.out⟩
/-- two sheets of one size -/
def alikeB (a b : Sh) : Bool := (a.wide == b.wide) && (a.high == b.high)
theorem same_any (a b : Sh) (w : World) : Calls Tryd.prog 82 #[.agg a.row, .agg b.row] w fun e w' => e = .returned (.bool (alikeB a b)) ∧ Below w.heap.size w w' := by
  by_cases h1 : a.wide = b.wide
  · by_cases h2 : a.high = b.high
    · rw [show alikeB a b = true by simp [alikeB, h1, h2]]; exact same_y a b w h1 h2
    · rw [show alikeB a b = false by simp [alikeB, h2]]; exact same_h a b w h1 h2
  · rw [show alikeB a b = false by simp [alikeB, h1]]; exact same_w a b w h1
end Go.Proofs.YtfhfiaphdgfmnaaDoor
