import Derived.Test.YtfdjlflnhhiecaaDoorReaders4
namespace Go.Proofs.YtfdjlflnhhiecaaDoor
open Go.RowKit
set_option maxRecDepth 100000
set_option linter.unusedVariables false
set_option maxHeartbeats 1000000 in
theorem WaterIn_law (s : Sh) (e : ErrE) (w : World) (hE : Errs e w) (hf : s.fit) : Calls Tryd.prog 9 #[.agg s.row] w fun o w' => o = .returned (.bool true) ∧ Below w.heap.size w w' := by
  have HT := Go.Lib.hid fun w => toSheet_any s w
  by_cases hv : okI s = true
  · have HS := Go.Lib.hid fun w => specWaterIn_ok s w hf hv
    have HI := Go.Lib.hid fun w hE => implWaterIn_ok s e w hE hf hv
    clear hv
    have hB : Hid (Below w.heap.size w (w.alloc (.cells (vrow 266 s.at) 31))) := ((Below.refl w.heap.size w).alloc (by simp <;> omega) _)
    have P : Hid ((w.alloc (.cells (vrow 266 s.at) 31)).heap[(w.heap.size)]? = some (.cells (vrow 266 s.at) 31)) := heap_at _ _ _ (by simp)
    have E : Hid (Errs e (w.alloc (.cells (vrow 266 s.at) 31))) := (hE).alloc _
    go_enter Tryd.func9, Tryd.ntmps9
    go_wp2_with (first
      | (go_at_call 16; (refine (HT.out _).mono ?_; rintro e w1 ⟨rfl, hb⟩; replace P := Go.Lib.hid (row_next hb P.out); replace hB := Go.Lib.hid (below_next hB.out hb); replace E := Go.Lib.hid (E.out.next hb); clear hb ))
      | (go_at_call 30; (refine (HS.out _).mono ?_; rintro e w1 ⟨rfl, hb⟩; replace P := Go.Lib.hid (row_next hb P.out); replace hB := Go.Lib.hid (below_next hB.out hb); replace E := Go.Lib.hid (E.out.next hb); clear hb ))
      | (go_at_call 31; (refine (HI.out _ E.out).mono ?_; rintro e w1 ⟨rfl, hb⟩; replace P := Go.Lib.hid (row_next hb P.out); replace hB := Go.Lib.hid (below_next hB.out hb); replace E := Go.Lib.hid (E.out.next hb); clear hb ))
      | (refine list_at 8 rfl ?_; intro W hW; rw [hW] at hB E P; clear hW; have P' := Go.Lib.hid (cls_row' P.out); (repeat (first | go_big_quiet_skip | (refine wpQuiet_loadmid 31 _ rfl (by first | exact want_n rfl | exact want_g _ _ _ rfl rfl rfl) (w.heap.size) _ rfl 266 266 s.at _ rw_lsheet size_lsheet P'.out (by omega) ?_; rw [sh_row]; simp only [Act.put, List.setIfInBounds_toArray, List.set_cons_succ, List.set_cons_zero]) | go_big_quiet_step (first | (go_at_call 16; exact cls_call _ (fun w hw => HT.out w)) | (go_at_call 30; exact cls_call _ (fun w hw => HS.out w)) | (go_at_call 31; exact cls_call _ (fun w hw => HI.out w (E.out.next hw)))))); refine wpQuiet_nil ?_; intro Wn hb; replace P := Go.Lib.hid (row_next hb P.out); replace hB := Go.Lib.hid (below_next hB.out hb); replace E := Go.Lib.hid (E.out.next hb); clear hb P')
      | (refine list_at 14 rfl ?_; intro W hW; rw [hW] at hB E P; clear hW; have P' := Go.Lib.hid (cls_row' P.out); (repeat (first | go_big_quiet_skip | (refine wpQuiet_loadmid 31 _ rfl (by first | exact want_n rfl | exact want_g _ _ _ rfl rfl rfl) (w.heap.size) _ rfl 266 266 s.at _ rw_lsheet size_lsheet P'.out (by omega) ?_; rw [sh_row]; simp only [Act.put, List.setIfInBounds_toArray, List.set_cons_succ, List.set_cons_zero]) | go_big_quiet_step (first | (go_at_call 16; exact cls_call _ (fun w hw => HT.out w)) | (go_at_call 30; exact cls_call _ (fun w hw => HS.out w)) | (go_at_call 31; exact cls_call _ (fun w hw => HI.out w (E.out.next hw)))))); refine wpQuiet_nil ?_; intro Wn hb; replace P := Go.Lib.hid (row_next hb P.out); replace hB := Go.Lib.hid (below_next hB.out hb); replace E := Go.Lib.hid (E.out.next hb); clear hb P'))
    go_ret
    exact ⟨rfl, hB.out⟩
  · have hv' : okI s = false := by simpa using hv
    have HS := Go.Lib.hid fun w => specWaterIn_bad s w hf hv'
    have HI := Go.Lib.hid fun w hE => implWaterIn_bad s e w hE hv'
    clear hv hv'
    have hB : Hid (Below w.heap.size w (w.alloc (.cells (vrow 266 s.at) 31))) := ((Below.refl w.heap.size w).alloc (by simp <;> omega) _)
    have P : Hid ((w.alloc (.cells (vrow 266 s.at) 31)).heap[(w.heap.size)]? = some (.cells (vrow 266 s.at) 31)) := heap_at _ _ _ (by simp)
    have E : Hid (Errs e (w.alloc (.cells (vrow 266 s.at) 31))) := (hE).alloc _
    go_enter Tryd.func9, Tryd.ntmps9
    go_wp2_with (first
      | (go_at_call 16; (refine (HT.out _).mono ?_; rintro e w1 ⟨rfl, hb⟩; replace P := Go.Lib.hid (row_next hb P.out); replace hB := Go.Lib.hid (below_next hB.out hb); replace E := Go.Lib.hid (E.out.next hb); clear hb ))
      | (go_at_call 30; (refine (HS.out _).mono ?_; rintro e w1 ⟨rfl, hb⟩; replace P := Go.Lib.hid (row_next hb P.out); replace hB := Go.Lib.hid (below_next hB.out hb); replace E := Go.Lib.hid (E.out.next hb); clear hb ))
      | (go_at_call 31; (refine (HI.out _ E.out).mono ?_; rintro e w1 ⟨rfl, hb⟩; replace P := Go.Lib.hid (row_next hb P.out); replace hB := Go.Lib.hid (below_next hB.out hb); replace E := Go.Lib.hid (E.out.next hb); clear hb ))
      | (refine list_at 8 rfl ?_; intro W hW; rw [hW] at hB E P; clear hW; have P' := Go.Lib.hid (cls_row' P.out); (repeat (first | go_big_quiet_skip | (refine wpQuiet_loadmid 31 _ rfl (by first | exact want_n rfl | exact want_g _ _ _ rfl rfl rfl) (w.heap.size) _ rfl 266 266 s.at _ rw_lsheet size_lsheet P'.out (by omega) ?_; rw [sh_row]; simp only [Act.put, List.setIfInBounds_toArray, List.set_cons_succ, List.set_cons_zero]) | go_big_quiet_step (first | (go_at_call 16; exact cls_call _ (fun w hw => HT.out w)) | (go_at_call 30; exact cls_call _ (fun w hw => HS.out w)) | (go_at_call 31; exact cls_call _ (fun w hw => HI.out w (E.out.next hw)))))); refine wpQuiet_nil ?_; intro Wn hb; replace P := Go.Lib.hid (row_next hb P.out); replace hB := Go.Lib.hid (below_next hB.out hb); replace E := Go.Lib.hid (E.out.next hb); clear hb P')
      | (refine list_at 14 rfl ?_; intro W hW; rw [hW] at hB E P; clear hW; have P' := Go.Lib.hid (cls_row' P.out); (repeat (first | go_big_quiet_skip | (refine wpQuiet_loadmid 31 _ rfl (by first | exact want_n rfl | exact want_g _ _ _ rfl rfl rfl) (w.heap.size) _ rfl 266 266 s.at _ rw_lsheet size_lsheet P'.out (by omega) ?_; rw [sh_row]; simp only [Act.put, List.setIfInBounds_toArray, List.set_cons_succ, List.set_cons_zero]) | go_big_quiet_step (first | (go_at_call 16; exact cls_call _ (fun w hw => HT.out w)) | (go_at_call 30; exact cls_call _ (fun w hw => HS.out w)) | (go_at_call 31; exact cls_call _ (fun w hw => HI.out w (E.out.next hw)))))); refine wpQuiet_nil ?_; intro Wn hb; replace P := Go.Lib.hid (row_next hb P.out); replace hB := Go.Lib.hid (below_next hB.out hb); replace E := Go.Lib.hid (E.out.next hb); clear hb P'))
    go_ret
    exact ⟨rfl, hB.out⟩
end Go.Proofs.YtfdjlflnhhiecaaDoor
