import Derived.Test.YtianedkknlggmaaDiffS
import Derived.Test.YtianedkknlggmaaDiffI
import Derived.Test.YtianedkknlggmaaEqSheet
import Derived.Test.YtianedkknlggmaaSheet
namespace Go.Proofs.Ytianedkknlggmaa
open Go.RowKit
set_option maxRecDepth 100000
set_option linter.unusedVariables false
set_option maxHeartbeats 1000000 in
theorem differ_walk (a b : Sh) (v c : Int)
    (hS : ∀ w, Calls Try.prog 23 #[.agg a.row, .agg b.row] w fun e w' => e = .returned (.tuple #[.int .i64 v, .int .i64 c]) ∧ Below w.heap.size w w')
    (hI : ∀ w, Calls Try.prog 24 #[.agg a.row, .agg b.row] w fun e w' => e = .returned (.tuple #[.int .i64 v, .int .i64 c]) ∧ Below w.heap.size w w') (w : World) : Calls Try.prog 6 #[.agg a.row, .agg b.row] w fun e w' => e = .returned (.bool true) ∧ Below w.heap.size w w' := by
  have HA := Go.Lib.hid fun w => toSheet_any a w
  have HB := Go.Lib.hid fun w => toSheet_any b w
  have HS := Go.Lib.hid hS
  have HI := Go.Lib.hid hI
  clear hS hI
  have hB : Hid (Below w.heap.size w ((w.alloc (.cells (vrow 266 a.at) 31)).alloc (.cells (vrow 266 b.at) 31))) := (((Below.refl w.heap.size w).alloc (by simp <;> omega) _).alloc (by simp <;> omega) _)
  have P : Hid (((w.alloc (.cells (vrow 266 a.at) 31)).alloc (.cells (vrow 266 b.at) 31)).heap[(w.heap.size)]? = some (.cells (vrow 266 a.at) 31)) := heap_past _ _ _ _ (by first | omega | (simp <;> omega)) (heap_at _ _ _ (by simp))
  have R : Hid (((w.alloc (.cells (vrow 266 a.at) 31)).alloc (.cells (vrow 266 b.at) 31)).heap[(w.heap.size + 1)]? = some (.cells (vrow 266 b.at) 31)) := heap_at _ _ _ (by simp)
  go_enter Try.func6, Try.ntmps6
  go_wp2
  (refine region_at (by kernel_rfl) (by kernel_rfl) ?_; intro W hW; rw [hW] at hB P R; clear hW; have P' := Go.Lib.hid (cls_row' P.out); have R' := Go.Lib.hid (cls_row' R.out); (repeat (first | go_big_quiet_skip | (refine wpQuiet_loadmid 31 _ rfl (by first | exact want_n rfl | exact want_g _ _ _ rfl rfl rfl) (w.heap.size) _ rfl 266 266 a.at _ rw_lsheet size_lsheet P'.out (by omega) ?_; rw [sh_row]; simp only [Act.put, List.setIfInBounds_toArray, List.set_cons_succ, List.set_cons_zero]) | (refine wpQuiet_loadmid 31 _ rfl (by first | exact want_n rfl | exact want_g _ _ _ rfl rfl rfl) (w.heap.size + 1) _ rfl 266 266 b.at _ rw_lsheet size_lsheet R'.out (by omega) ?_; rw [sh_row]; simp only [Act.put, List.setIfInBounds_toArray, List.set_cons_succ, List.set_cons_zero]) | go_big_quiet_step (first | (go_at_call 16; first | with_reducible exact cls_call _ (fun w hw => HA.out w) | with_reducible exact cls_call _ (fun w hw => HB.out w)) | (go_at_call 23; exact cls_call _ (fun w hw => HS.out w)) | (go_at_call 24; exact cls_call _ (fun w hw => HI.out w))))); refine wpQuiet_nil ?_; intro Wn hb; replace P := Go.Lib.hid (row_next hb P.out); replace R := Go.Lib.hid (row_next hb R.out); replace hB := Go.Lib.hid (below_next hB.out hb); clear hb P' R')
  go_wp2
  (refine region_at (by kernel_rfl) (by kernel_rfl) ?_; intro W hW; rw [hW] at hB P R; clear hW; have P' := Go.Lib.hid (cls_row' P.out); have R' := Go.Lib.hid (cls_row' R.out); (repeat (first | go_big_quiet_skip | (refine wpQuiet_loadmid 31 _ rfl (by first | exact want_n rfl | exact want_g _ _ _ rfl rfl rfl) (w.heap.size) _ rfl 266 266 a.at _ rw_lsheet size_lsheet P'.out (by omega) ?_; rw [sh_row]; simp only [Act.put, List.setIfInBounds_toArray, List.set_cons_succ, List.set_cons_zero]) | (refine wpQuiet_loadmid 31 _ rfl (by first | exact want_n rfl | exact want_g _ _ _ rfl rfl rfl) (w.heap.size + 1) _ rfl 266 266 b.at _ rw_lsheet size_lsheet R'.out (by omega) ?_; rw [sh_row]; simp only [Act.put, List.setIfInBounds_toArray, List.set_cons_succ, List.set_cons_zero]) | go_big_quiet_step (first | (go_at_call 16; first | with_reducible exact cls_call _ (fun w hw => HA.out w) | with_reducible exact cls_call _ (fun w hw => HB.out w)) | (go_at_call 23; exact cls_call _ (fun w hw => HS.out w)) | (go_at_call 24; exact cls_call _ (fun w hw => HI.out w))))); refine wpQuiet_nil ?_; intro Wn hb; replace P := Go.Lib.hid (row_next hb P.out); replace R := Go.Lib.hid (row_next hb R.out); replace hB := Go.Lib.hid (below_next hB.out hb); clear hb P' R')
  go_wp2
  go_ret
  exact ⟨rfl, hB.out⟩
theorem differ_law (a b : Sh) (ha : a.fit) (hb : b.fit) (w : World) : Calls Try.prog 6 #[.agg a.row, .agg b.row] w fun e w' => e = .returned (.bool true) ∧ Below w.heap.size w w' := by
  cases hva : okI a
  · exact differ_walk a b 0 1 (fun w => specDiffer_na a b w ha hb hva) (fun w => implDiffer_na a b w ha hb hva) w
  · cases hvb : okI b
    · exact differ_walk a b 0 1 (fun w => specDiffer_nb a b w ha hb hva hvb) (fun w => implDiffer_nb a b w ha hb hva hvb) w
    · by_cases hw : a.wide = b.wide
      · by_cases hh : a.high = b.high
        · exact differ_walk a b _ 0 (fun w => specDiffer_ok a b w ha hb hva hvb hw hh) (fun w => implDiffer_ok a b w ha hb hva hvb hw hh) w
        · exact differ_walk a b 0 4 (fun w => specDiffer_nh a b w ha hb hva hvb hw hh) (fun w => implDiffer_ns a b w hva hvb (fun w => same_h a b w hw hh)) w
      · exact differ_walk a b 0 4 (fun w => specDiffer_nw a b w ha hb hva hvb hw) (fun w => implDiffer_ns a b w hva hvb (fun w => same_w a b w hw)) w
end Go.Proofs.Ytianedkknlggmaa
