import Derived.Test.YtianedkknlggmaaOkEq
import Derived.Test.YtianedkknlggmaaEqSheet
namespace Go.Proofs.Ytianedkknlggmaa
open Go.RowKit
set_option maxRecDepth 100000
set_option linter.unusedVariables false
set_option maxHeartbeats 400000 in
theorem specV_any (s : Sh) (w : World) (hf : s.fit) : Calls Try.prog 15 #[.agg s.row] w fun e w' => e = .returned (.bool (okI s)) ∧ Below w.heap.size w w' := by
  rw [ok_eq s hf]
  have hB : Hid (Below w.heap.size w (w.alloc (.cells (vrow 266 s.at) 33))) := ((Below.refl w.heap.size w).alloc (by simp <;> omega) _)
  have P : Hid ((w.alloc (.cells (vrow 266 s.at) 33)).heap[(w.heap.size)]? = some (.cells (vrow 266 s.at) 33)) := heap_at _ _ _ (by simp)
  go_enter Try.func15, Try.ntmps15
  go_wp2_with (first
    | (go_at_call 54; (refine (ok_any s _ _ P.out hf).mono ?_; rintro e w1 ⟨rfl, hb⟩; replace P := Go.Lib.hid (row_next hb P.out); replace hB := Go.Lib.hid (below_next hB.out hb); clear hb )))
  go_ret
  exact ⟨rfl, hB.out⟩
set_option maxRecDepth 100000 in
set_option maxHeartbeats 400000 in
theorem validSheet_law (s : Sh) (w : World) (hf : s.fit) : Calls Try.prog 3 #[.agg s.row] w fun e w' => e = .returned (.bool true) ∧ Below w.heap.size w w' := by
  have HS0 := fun w => specV_any s w hf
  have HI0 := fun w => implV_any s w
  have HT := Go.Lib.hid fun w => toSheet_any s w
  have hB : Hid (Below w.heap.size w (w.alloc (.cells (vrow 266 s.at) 31))) := ((Below.refl w.heap.size w).alloc (by simp <;> omega) _)
  have P : Hid ((w.alloc (.cells (vrow 266 s.at) 31)).heap[(w.heap.size)]? = some (.cells (vrow 266 s.at) 31)) := heap_at _ _ _ (by simp)
  cases hv : okI s
  all_goals
    rw [hv] at HS0 HI0
    have HS := Go.Lib.hid HS0
    have HI := Go.Lib.hid HI0
    clear HS0 HI0 hv
    go_enter Try.func3, Try.ntmps3
    go_wp2_with (first
      | (go_at_call 16; (refine (HT.out _).mono ?_; rintro e w1 ⟨rfl, hb⟩; replace P := Go.Lib.hid (row_next hb P.out); replace hB := Go.Lib.hid (below_next hB.out hb); clear hb ))
      | (go_at_call 15; (refine (HS.out _).mono ?_; rintro e w1 ⟨rfl, hb⟩; replace P := Go.Lib.hid (row_next hb P.out); replace hB := Go.Lib.hid (below_next hB.out hb); clear hb ))
      | (go_at_call 17; (refine (HI.out _).mono ?_; rintro e w1 ⟨rfl, hb⟩; replace P := Go.Lib.hid (row_next hb P.out); replace hB := Go.Lib.hid (below_next hB.out hb); clear hb ))
      | (refine list_at 5 rfl ?_; intro W hW; rw [hW] at hB P; clear hW; have P' := Go.Lib.hid (cls_row' P.out); (repeat (first | go_big_quiet_skip | (refine wpQuiet_loadmid 31 _ rfl (by first | exact want_n rfl | exact want_g _ _ _ rfl rfl rfl) (w.heap.size) _ rfl 266 266 s.at _ rw_lsheet size_lsheet P'.out (by omega) ?_; rw [sh_row]; simp only [Act.put, List.setIfInBounds_toArray, List.set_cons_succ, List.set_cons_zero]) | go_big_quiet_step (first | (go_at_call 16; exact cls_call _ (fun w hw => HT.out w)) | (go_at_call 15; exact cls_call _ (fun w hw => HS.out w)) | (go_at_call 17; exact cls_call _ (fun w hw => HI.out w))))); refine wpQuiet_nil ?_; intro Wn hb; replace P := Go.Lib.hid (row_next hb P.out); replace hB := Go.Lib.hid (below_next hB.out hb); clear hb P')
      | (refine list_at 8 rfl ?_; intro W hW; rw [hW] at hB P; clear hW; have P' := Go.Lib.hid (cls_row' P.out); (repeat (first | go_big_quiet_skip | (refine wpQuiet_loadmid 31 _ rfl (by first | exact want_n rfl | exact want_g _ _ _ rfl rfl rfl) (w.heap.size) _ rfl 266 266 s.at _ rw_lsheet size_lsheet P'.out (by omega) ?_; rw [sh_row]; simp only [Act.put, List.setIfInBounds_toArray, List.set_cons_succ, List.set_cons_zero]) | go_big_quiet_step (first | (go_at_call 16; exact cls_call _ (fun w hw => HT.out w)) | (go_at_call 15; exact cls_call _ (fun w hw => HS.out w)) | (go_at_call 17; exact cls_call _ (fun w hw => HI.out w))))); refine wpQuiet_nil ?_; intro Wn hb; replace P := Go.Lib.hid (row_next hb P.out); replace hB := Go.Lib.hid (below_next hB.out hb); clear hb P'))
    go_ret
    exact ⟨rfl, hB.out⟩
end Go.Proofs.Ytianedkknlggmaa
