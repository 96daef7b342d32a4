import Derived.Test.YtfdjlflnhhiecaaDoorImplW
namespace Go.Proofs.YtfdjlflnhhiecaaDoor
open Go.RowKit
set_option maxRecDepth 100000
set_option linter.unusedVariables false
set_option maxHeartbeats 400000 in
theorem specWaterIn_bad (s : Sh) (w : World) (hf : s.fit) (hv : okI s = false) : Calls Tryd.prog 30 #[.agg s.row] w fun e w' => e = .returned (.tuple #[.int .i64 0, .int .i64 1]) ∧ Below w.heap.size w w' := by
  have HO0 := fun w' hs => ok_any s w.heap.size w' hs hf
  rw [← ok_eq s hf, hv] at HO0
  have HO := Go.Lib.hid HO0
  have HW := Go.Lib.hid fun w' hs => lwater_any s w.heap.size w' hs hf
  clear HO0 hv
  have hB : Hid (Below w.heap.size w (w.alloc (.cells (vrow 266 s.at) 36))) := ((Below.refl w.heap.size w).alloc (by simp <;> omega) _)
  have P : Hid ((w.alloc (.cells (vrow 266 s.at) 36)).heap[(w.heap.size)]? = some (.cells (vrow 266 s.at) 36)) := heap_at _ _ _ (by simp)
  go_enter Tryd.func30, Tryd.ntmps30
  go_wp2_with (first
    | (go_at_call 61; (refine (HO.out _ P.out).mono ?_; rintro e w1 ⟨rfl, hb⟩; replace P := Go.Lib.hid (row_next hb P.out); replace hB := Go.Lib.hid (below_next hB.out hb); clear hb ))
    | (go_at_call 62; (refine (HW.out _ P.out).mono ?_; rintro e w1 ⟨rfl, hb⟩; replace P := Go.Lib.hid (row_next hb P.out); replace hB := Go.Lib.hid (below_next hB.out hb); clear hb )))
  go_ret2
  exact ⟨rfl, hB.out⟩
set_option maxHeartbeats 400000 in
theorem specWaterIn_ok (s : Sh) (w : World) (hf : s.fit) (hv : okI s = true) : Calls Tryd.prog 30 #[.agg s.row] w fun e w' => e = .returned (.tuple #[.int .i64 (wsum s 64), .int .i64 0]) ∧ Below w.heap.size w w' := by
  have HO0 := fun w' hs => ok_any s w.heap.size w' hs hf
  rw [← ok_eq s hf, hv] at HO0
  have HO := Go.Lib.hid HO0
  have HW := Go.Lib.hid fun w' hs => lwater_any s w.heap.size w' hs hf
  clear HO0 hv
  have hB : Hid (Below w.heap.size w (w.alloc (.cells (vrow 266 s.at) 36))) := ((Below.refl w.heap.size w).alloc (by simp <;> omega) _)
  have P : Hid ((w.alloc (.cells (vrow 266 s.at) 36)).heap[(w.heap.size)]? = some (.cells (vrow 266 s.at) 36)) := heap_at _ _ _ (by simp)
  go_enter Tryd.func30, Tryd.ntmps30
  go_wp2_with (first
    | (go_at_call 61; (refine (HO.out _ P.out).mono ?_; rintro e w1 ⟨rfl, hb⟩; replace P := Go.Lib.hid (row_next hb P.out); replace hB := Go.Lib.hid (below_next hB.out hb); clear hb ))
    | (go_at_call 62; (refine (HW.out _ P.out).mono ?_; rintro e w1 ⟨rfl, hb⟩; replace P := Go.Lib.hid (row_next hb P.out); replace hB := Go.Lib.hid (below_next hB.out hb); clear hb )))
  go_ret2
  exact ⟨rfl, hB.out⟩
set_option maxHeartbeats 400000 in
theorem implWaterIn_bad (s : Sh) (e : ErrE) (w : World) (hE : Errs e w) (hv : okI s = false) (hf : s.fit := by assumption) : Calls Tryd.prog 31 #[.agg s.row] w fun o w' => o = .returned (.tuple #[.int .i64 0, .int .i64 1]) ∧ Below w.heap.size w w' := by
  have hB : Hid (Below w.heap.size w (w.alloc (.cells (vrow 266 s.at) 36))) := ((Below.refl w.heap.size w).alloc (by simp <;> omega) _)
  have P : Hid ((w.alloc (.cells (vrow 266 s.at) 36)).heap[(w.heap.size)]? = some (.cells (vrow 266 s.at) 36)) := heap_at _ _ _ (by simp)
  have E : Hid (Errs e (w.alloc (.cells (vrow 266 s.at) 36))) := (hE).alloc _
  go_enter Tryd.func31, Tryd.ntmps31
  go_wp2_with (first
    | (go_at_call 63; (refine (checkSheet_bad s hv e _ E.out).mono ?_; rintro e w1 ⟨rfl, hb⟩; replace P := Go.Lib.hid (row_next hb P.out); replace hB := Go.Lib.hid (below_next hB.out hb); replace E := Go.Lib.hid (E.out.next hb); clear hb ))
    | (go_at_call 47; (refine (codeOf_1 e _ E.out).mono ?_; rintro e w1 ⟨rfl, hb⟩; replace P := Go.Lib.hid (row_next hb P.out); replace hB := Go.Lib.hid (below_next hB.out hb); replace E := Go.Lib.hid (E.out.next hb); clear hb ))
    | (refine list_at 5 rfl ?_; intro W hW; rw [hW] at hB E P; clear hW; have P' := Go.Lib.hid (cls_row' P.out); (repeat (first | go_big_quiet_skip | (refine wpQuiet_loadmid 36 _ rfl (by first | exact want_n rfl | exact want_g _ _ _ rfl rfl rfl) (w.heap.size) _ rfl 266 266 s.at _ rw_sheet size_sheet P'.out (by omega) ?_; rw [sh_row]; simp only [Act.put, List.setIfInBounds_toArray, List.set_cons_succ, List.set_cons_zero]) | go_big_quiet_step (first | (go_at_call 63; exact cls_call _ (fun w hw => checkSheet_bad s hv e w (E.out.next hw))) | (go_at_call 47; exact cls_call _ (fun w hw => codeOf_1 e w (E.out.next hw)))))); refine wpQuiet_nil ?_; intro Wn hb; replace P := Go.Lib.hid (row_next hb P.out); replace hB := Go.Lib.hid (below_next hB.out hb); replace E := Go.Lib.hid (E.out.next hb); clear hb P')
    | (refine list_at 11 rfl ?_; intro W hW; rw [hW] at hB E P; clear hW; have P' := Go.Lib.hid (cls_row' P.out); (repeat (first | go_big_quiet_skip | (refine wpQuiet_loadmid 36 _ rfl (by first | exact want_n rfl | exact want_g _ _ _ rfl rfl rfl) (w.heap.size) _ rfl 266 266 s.at _ rw_sheet size_sheet P'.out (by omega) ?_; rw [sh_row]; simp only [Act.put, List.setIfInBounds_toArray, List.set_cons_succ, List.set_cons_zero]) | go_big_quiet_step (first | (go_at_call 63; exact cls_call _ (fun w hw => checkSheet_bad s hv e w (E.out.next hw))) | (go_at_call 47; exact cls_call _ (fun w hw => codeOf_1 e w (E.out.next hw)))))); refine wpQuiet_nil ?_; intro Wn hb; replace P := Go.Lib.hid (row_next hb P.out); replace hB := Go.Lib.hid (below_next hB.out hb); replace E := Go.Lib.hid (E.out.next hb); clear hb P'))
  go_ret2
  exact ⟨rfl, hB.out⟩
set_option maxHeartbeats 400000 in
theorem implWaterIn_ok (s : Sh) (e : ErrE) (w : World) (hE : Errs e w) (hf : s.fit) (hv : okI s = true) : Calls Tryd.prog 31 #[.agg s.row] w fun o w' => o = .returned (.tuple #[.int .i64 (wsum s 64), .int .i64 0]) ∧ Below w.heap.size w w' := by
  have hb := hv
  simp only [okI, Bool.and_eq_true, decide_eq_true_eq] at hb
  obtain ⟨⟨hb1, hb2⟩, ⟨hb3, hb4⟩, _⟩ := hb
  have HW0 := fun w => water_any s w hf hb1 hb2 hb3 hb4
  rw [water_eq s hv] at HW0
  have HW := Go.Lib.hid HW0
  clear HW0 hb1 hb2 hb3 hb4
  have hB : Hid (Below w.heap.size w (w.alloc (.cells (vrow 266 s.at) 36))) := ((Below.refl w.heap.size w).alloc (by simp <;> omega) _)
  have P : Hid ((w.alloc (.cells (vrow 266 s.at) 36)).heap[(w.heap.size)]? = some (.cells (vrow 266 s.at) 36)) := heap_at _ _ _ (by simp)
  have E : Hid (Errs e (w.alloc (.cells (vrow 266 s.at) 36))) := (hE).alloc _
  go_enter Tryd.func31, Tryd.ntmps31
  go_wp2_with (first
    | (go_at_call 63; (refine (checkSheet_ok s hv e _ E.out).mono ?_; rintro e w1 ⟨rfl, hb⟩; replace P := Go.Lib.hid (row_next hb P.out); replace hB := Go.Lib.hid (below_next hB.out hb); replace E := Go.Lib.hid (E.out.next hb); clear hb ))
    | (go_at_call 64; (refine (HW.out _).mono ?_; rintro e w1 ⟨rfl, hb⟩; replace P := Go.Lib.hid (row_next hb P.out); replace hB := Go.Lib.hid (below_next hB.out hb); replace E := Go.Lib.hid (E.out.next hb); clear hb ))
    | (refine list_at 5 rfl ?_; intro W hW; rw [hW] at hB E P; clear hW; have P' := Go.Lib.hid (cls_row' P.out); (repeat (first | go_big_quiet_skip | (refine wpQuiet_loadmid 36 _ rfl (by first | exact want_n rfl | exact want_g _ _ _ rfl rfl rfl) (w.heap.size) _ rfl 266 266 s.at _ rw_sheet size_sheet P'.out (by omega) ?_; rw [sh_row]; simp only [Act.put, List.setIfInBounds_toArray, List.set_cons_succ, List.set_cons_zero]) | go_big_quiet_step (first | (go_at_call 63; exact cls_call _ (fun w hw => checkSheet_ok s hv e w (E.out.next hw))) | (go_at_call 64; exact cls_call _ (fun w hw => HW.out w))))); refine wpQuiet_nil ?_; intro Wn hb; replace P := Go.Lib.hid (row_next hb P.out); replace hB := Go.Lib.hid (below_next hB.out hb); replace E := Go.Lib.hid (E.out.next hb); clear hb P')
    | (refine list_at 11 rfl ?_; intro W hW; rw [hW] at hB E P; clear hW; have P' := Go.Lib.hid (cls_row' P.out); (repeat (first | go_big_quiet_skip | (refine wpQuiet_loadmid 36 _ rfl (by first | exact want_n rfl | exact want_g _ _ _ rfl rfl rfl) (w.heap.size) _ rfl 266 266 s.at _ rw_sheet size_sheet P'.out (by omega) ?_; rw [sh_row]; simp only [Act.put, List.setIfInBounds_toArray, List.set_cons_succ, List.set_cons_zero]) | go_big_quiet_step (first | (go_at_call 63; exact cls_call _ (fun w hw => checkSheet_ok s hv e w (E.out.next hw))) | (go_at_call 64; exact cls_call _ (fun w hw => HW.out w))))); refine wpQuiet_nil ?_; intro Wn hb; replace P := Go.Lib.hid (row_next hb P.out); replace hB := Go.Lib.hid (below_next hB.out hb); replace E := Go.Lib.hid (E.out.next hb); clear hb P'))
  go_ret2
  exact ⟨rfl, hB.out⟩
end Go.Proofs.YtfdjlflnhhiecaaDoor
