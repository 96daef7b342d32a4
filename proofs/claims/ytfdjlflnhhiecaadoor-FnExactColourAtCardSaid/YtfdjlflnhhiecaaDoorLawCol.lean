import Derived.Test.YtfdjlflnhhiecaaDoorReaders3
namespace Go.Proofs.YtfdjlflnhhiecaaDoor
open Go.RowKit
set_option maxRecDepth 100000
set_option linter.unusedVariables false
set_option maxHeartbeats 1000000 in
theorem Col_law (s : Sh) (x y : Int) (e : ErrE) (w : World) (hE : Errs e w) (hf : s.fit) (hx : -128 ≤ x ∧ x ≤ 127) (hy : -128 ≤ y ∧ y ≤ 127) : Calls Tryd.prog 10 #[.agg s.row, .agg #[.int .i8 x, .int .i8 y]] w fun o w' => o = .returned (.bool true) ∧ Below w.heap.size w w' := by
  have HT := Go.Lib.hid fun w => toSheet_any s w
  by_cases hv : okI s = true
  · by_cases hh : hasB s x y = true
    · obtain ⟨x, y, rfl, rfl, hx, hy⟩ := ok_has s hv x y hh
      have HS := Go.Lib.hid fun w => specCol_ok s x y w hf hx hy hv hh
      have HI := Go.Lib.hid fun w hE => implCol_ok s x y e w hE hf hx hy hv hh
      clear hv hh
      have HP := Go.Lib.hid fun w => toSpot_any x y w
      rw [sp_vrow]
      have hB : Hid (Below w.heap.size w ((w.alloc (.cells (vrow 266 s.at) 31)).alloc (.cells (vrow 2 (spAt x y)) 33))) := (((Below.refl w.heap.size w).alloc (by simp <;> omega) _).alloc (by simp <;> omega) _)
      have P : Hid (((w.alloc (.cells (vrow 266 s.at) 31)).alloc (.cells (vrow 2 (spAt x y)) 33)).heap[(w.heap.size)]? = some (.cells (vrow 266 s.at) 31)) := heap_past _ _ _ _ (by first | omega | (simp <;> omega)) (heap_at _ _ _ (by simp))
      have R : Hid (((w.alloc (.cells (vrow 266 s.at) 31)).alloc (.cells (vrow 2 (spAt x y)) 33)).heap[(w.heap.size + 1)]? = some (.cells (vrow 2 (spAt x y)) 33)) := heap_at _ _ _ (by simp)
      have E : Hid (Errs e ((w.alloc (.cells (vrow 266 s.at) 31)).alloc (.cells (vrow 2 (spAt x y)) 33))) := ((hE).alloc _).alloc _
      go_enter Tryd.func10, Tryd.ntmps10
      go_wp2
      (refine region_at (by kernel_rfl) (by kernel_rfl) ?_; intro W hW; rw [hW] at hB E P R; clear hW; have P' := Go.Lib.hid (cls_row' P.out); have R' := Go.Lib.hid (cls_row' R.out); (repeat (first | go_big_quiet_skip | (refine wpQuiet_loadmid 31 _ rfl (by first | exact want_n rfl | exact want_g _ _ _ rfl rfl rfl) (w.heap.size) _ rfl 266 266 s.at _ rw_lsheet size_lsheet P'.out (by omega) ?_; rw [sh_row]; simp only [Act.put, List.setIfInBounds_toArray, List.set_cons_succ, List.set_cons_zero]) | (refine wpQuiet_loadmid 33 _ rfl (by first | exact want_n rfl | exact want_g _ _ _ rfl rfl rfl) (w.heap.size + 1) _ rfl 2 2 (spAt x y) _ rw_lspot size_lspot R'.out (by omega) ?_; rw [sp_row]; simp only [Act.put, List.setIfInBounds_toArray, List.set_cons_succ, List.set_cons_zero]) | go_big_quiet_step (first | (go_at_call 16; exact cls_call _ (fun w hw => HT.out w)) | (go_at_call 17; exact cls_call _ (fun w hw => HP.out w)) | (go_at_call 32; exact cls_call _ (fun w hw => HS.out w)) | (go_at_call 33; exact cls_call _ (fun w hw => HI.out w (E.out.next hw)))))); refine wpQuiet_nil ?_; intro Wn hb; replace P := Go.Lib.hid (row_next hb P.out); replace R := Go.Lib.hid (row_next hb R.out); replace hB := Go.Lib.hid (below_next hB.out hb); replace E := Go.Lib.hid (E.out.next hb); clear hb P' R')
      go_wp2
      (refine region_at (by kernel_rfl) (by kernel_rfl) ?_; intro W hW; rw [hW] at hB E P R; clear hW; have P' := Go.Lib.hid (cls_row' P.out); have R' := Go.Lib.hid (cls_row' R.out); (repeat (first | go_big_quiet_skip | (refine wpQuiet_loadmid 31 _ rfl (by first | exact want_n rfl | exact want_g _ _ _ rfl rfl rfl) (w.heap.size) _ rfl 266 266 s.at _ rw_lsheet size_lsheet P'.out (by omega) ?_; rw [sh_row]; simp only [Act.put, List.setIfInBounds_toArray, List.set_cons_succ, List.set_cons_zero]) | (refine wpQuiet_loadmid 33 _ rfl (by first | exact want_n rfl | exact want_g _ _ _ rfl rfl rfl) (w.heap.size + 1) _ rfl 2 2 (spAt x y) _ rw_lspot size_lspot R'.out (by omega) ?_; rw [sp_row]; simp only [Act.put, List.setIfInBounds_toArray, List.set_cons_succ, List.set_cons_zero]) | go_big_quiet_step (first | (go_at_call 16; exact cls_call _ (fun w hw => HT.out w)) | (go_at_call 17; exact cls_call _ (fun w hw => HP.out w)) | (go_at_call 32; exact cls_call _ (fun w hw => HS.out w)) | (go_at_call 33; exact cls_call _ (fun w hw => HI.out w (E.out.next hw)))))); refine wpQuiet_nil ?_; intro Wn hb; replace P := Go.Lib.hid (row_next hb P.out); replace R := Go.Lib.hid (row_next hb R.out); replace hB := Go.Lib.hid (below_next hB.out hb); replace E := Go.Lib.hid (E.out.next hb); clear hb P' R')
      go_wp2
      go_ret
      exact ⟨rfl, hB.out⟩
    · have hh' : hasB s x y = false := by simpa using hh
      have HS := Go.Lib.hid fun w => specCol_no s x y w hf hx hy hv hh'
      have HI := Go.Lib.hid fun w hE => implCol_no s x y e w hE hv hh'
      clear hv hh hh'
      have HP := Go.Lib.hid fun w => toSpot_any x y w
      rw [sp_vrow]
      have hB : Hid (Below w.heap.size w ((w.alloc (.cells (vrow 266 s.at) 31)).alloc (.cells (vrow 2 (spAt x y)) 33))) := (((Below.refl w.heap.size w).alloc (by simp <;> omega) _).alloc (by simp <;> omega) _)
      have P : Hid (((w.alloc (.cells (vrow 266 s.at) 31)).alloc (.cells (vrow 2 (spAt x y)) 33)).heap[(w.heap.size)]? = some (.cells (vrow 266 s.at) 31)) := heap_past _ _ _ _ (by first | omega | (simp <;> omega)) (heap_at _ _ _ (by simp))
      have R : Hid (((w.alloc (.cells (vrow 266 s.at) 31)).alloc (.cells (vrow 2 (spAt x y)) 33)).heap[(w.heap.size + 1)]? = some (.cells (vrow 2 (spAt x y)) 33)) := heap_at _ _ _ (by simp)
      have E : Hid (Errs e ((w.alloc (.cells (vrow 266 s.at) 31)).alloc (.cells (vrow 2 (spAt x y)) 33))) := ((hE).alloc _).alloc _
      go_enter Tryd.func10, Tryd.ntmps10
      go_wp2
      (refine region_at (by kernel_rfl) (by kernel_rfl) ?_; intro W hW; rw [hW] at hB E P R; clear hW; have P' := Go.Lib.hid (cls_row' P.out); have R' := Go.Lib.hid (cls_row' R.out); (repeat (first | go_big_quiet_skip | (refine wpQuiet_loadmid 31 _ rfl (by first | exact want_n rfl | exact want_g _ _ _ rfl rfl rfl) (w.heap.size) _ rfl 266 266 s.at _ rw_lsheet size_lsheet P'.out (by omega) ?_; rw [sh_row]; simp only [Act.put, List.setIfInBounds_toArray, List.set_cons_succ, List.set_cons_zero]) | (refine wpQuiet_loadmid 33 _ rfl (by first | exact want_n rfl | exact want_g _ _ _ rfl rfl rfl) (w.heap.size + 1) _ rfl 2 2 (spAt x y) _ rw_lspot size_lspot R'.out (by omega) ?_; rw [sp_row]; simp only [Act.put, List.setIfInBounds_toArray, List.set_cons_succ, List.set_cons_zero]) | go_big_quiet_step (first | (go_at_call 16; exact cls_call _ (fun w hw => HT.out w)) | (go_at_call 17; exact cls_call _ (fun w hw => HP.out w)) | (go_at_call 32; exact cls_call _ (fun w hw => HS.out w)) | (go_at_call 33; exact cls_call _ (fun w hw => HI.out w (E.out.next hw)))))); refine wpQuiet_nil ?_; intro Wn hb; replace P := Go.Lib.hid (row_next hb P.out); replace R := Go.Lib.hid (row_next hb R.out); replace hB := Go.Lib.hid (below_next hB.out hb); replace E := Go.Lib.hid (E.out.next hb); clear hb P' R')
      go_wp2
      (refine region_at (by kernel_rfl) (by kernel_rfl) ?_; intro W hW; rw [hW] at hB E P R; clear hW; have P' := Go.Lib.hid (cls_row' P.out); have R' := Go.Lib.hid (cls_row' R.out); (repeat (first | go_big_quiet_skip | (refine wpQuiet_loadmid 31 _ rfl (by first | exact want_n rfl | exact want_g _ _ _ rfl rfl rfl) (w.heap.size) _ rfl 266 266 s.at _ rw_lsheet size_lsheet P'.out (by omega) ?_; rw [sh_row]; simp only [Act.put, List.setIfInBounds_toArray, List.set_cons_succ, List.set_cons_zero]) | (refine wpQuiet_loadmid 33 _ rfl (by first | exact want_n rfl | exact want_g _ _ _ rfl rfl rfl) (w.heap.size + 1) _ rfl 2 2 (spAt x y) _ rw_lspot size_lspot R'.out (by omega) ?_; rw [sp_row]; simp only [Act.put, List.setIfInBounds_toArray, List.set_cons_succ, List.set_cons_zero]) | go_big_quiet_step (first | (go_at_call 16; exact cls_call _ (fun w hw => HT.out w)) | (go_at_call 17; exact cls_call _ (fun w hw => HP.out w)) | (go_at_call 32; exact cls_call _ (fun w hw => HS.out w)) | (go_at_call 33; exact cls_call _ (fun w hw => HI.out w (E.out.next hw)))))); refine wpQuiet_nil ?_; intro Wn hb; replace P := Go.Lib.hid (row_next hb P.out); replace R := Go.Lib.hid (row_next hb R.out); replace hB := Go.Lib.hid (below_next hB.out hb); replace E := Go.Lib.hid (E.out.next hb); clear hb P' R')
      go_wp2
      go_ret
      exact ⟨rfl, hB.out⟩
  · have hv' : okI s = false := by simpa using hv
    have HS := Go.Lib.hid fun w => specCol_bad s x y w hf hx hy hv'
    have HI := Go.Lib.hid fun w hE => implCol_bad s x y e w hE hv'
    clear hv hv'
    have HP := Go.Lib.hid fun w => toSpot_any x y w
    rw [sp_vrow]
    have hB : Hid (Below w.heap.size w ((w.alloc (.cells (vrow 266 s.at) 31)).alloc (.cells (vrow 2 (spAt x y)) 33))) := (((Below.refl w.heap.size w).alloc (by simp <;> omega) _).alloc (by simp <;> omega) _)
    have P : Hid (((w.alloc (.cells (vrow 266 s.at) 31)).alloc (.cells (vrow 2 (spAt x y)) 33)).heap[(w.heap.size)]? = some (.cells (vrow 266 s.at) 31)) := heap_past _ _ _ _ (by first | omega | (simp <;> omega)) (heap_at _ _ _ (by simp))
    have R : Hid (((w.alloc (.cells (vrow 266 s.at) 31)).alloc (.cells (vrow 2 (spAt x y)) 33)).heap[(w.heap.size + 1)]? = some (.cells (vrow 2 (spAt x y)) 33)) := heap_at _ _ _ (by simp)
    have E : Hid (Errs e ((w.alloc (.cells (vrow 266 s.at) 31)).alloc (.cells (vrow 2 (spAt x y)) 33))) := ((hE).alloc _).alloc _
    go_enter Tryd.func10, Tryd.ntmps10
    go_wp2
    (refine region_at (by kernel_rfl) (by kernel_rfl) ?_; intro W hW; rw [hW] at hB E P R; clear hW; have P' := Go.Lib.hid (cls_row' P.out); have R' := Go.Lib.hid (cls_row' R.out); (repeat (first | go_big_quiet_skip | (refine wpQuiet_loadmid 31 _ rfl (by first | exact want_n rfl | exact want_g _ _ _ rfl rfl rfl) (w.heap.size) _ rfl 266 266 s.at _ rw_lsheet size_lsheet P'.out (by omega) ?_; rw [sh_row]; simp only [Act.put, List.setIfInBounds_toArray, List.set_cons_succ, List.set_cons_zero]) | (refine wpQuiet_loadmid 33 _ rfl (by first | exact want_n rfl | exact want_g _ _ _ rfl rfl rfl) (w.heap.size + 1) _ rfl 2 2 (spAt x y) _ rw_lspot size_lspot R'.out (by omega) ?_; rw [sp_row]; simp only [Act.put, List.setIfInBounds_toArray, List.set_cons_succ, List.set_cons_zero]) | go_big_quiet_step (first | (go_at_call 16; exact cls_call _ (fun w hw => HT.out w)) | (go_at_call 17; exact cls_call _ (fun w hw => HP.out w)) | (go_at_call 32; exact cls_call _ (fun w hw => HS.out w)) | (go_at_call 33; exact cls_call _ (fun w hw => HI.out w (E.out.next hw)))))); refine wpQuiet_nil ?_; intro Wn hb; replace P := Go.Lib.hid (row_next hb P.out); replace R := Go.Lib.hid (row_next hb R.out); replace hB := Go.Lib.hid (below_next hB.out hb); replace E := Go.Lib.hid (E.out.next hb); clear hb P' R')
    go_wp2
    (refine region_at (by kernel_rfl) (by kernel_rfl) ?_; intro W hW; rw [hW] at hB E P R; clear hW; have P' := Go.Lib.hid (cls_row' P.out); have R' := Go.Lib.hid (cls_row' R.out); (repeat (first | go_big_quiet_skip | (refine wpQuiet_loadmid 31 _ rfl (by first | exact want_n rfl | exact want_g _ _ _ rfl rfl rfl) (w.heap.size) _ rfl 266 266 s.at _ rw_lsheet size_lsheet P'.out (by omega) ?_; rw [sh_row]; simp only [Act.put, List.setIfInBounds_toArray, List.set_cons_succ, List.set_cons_zero]) | (refine wpQuiet_loadmid 33 _ rfl (by first | exact want_n rfl | exact want_g _ _ _ rfl rfl rfl) (w.heap.size + 1) _ rfl 2 2 (spAt x y) _ rw_lspot size_lspot R'.out (by omega) ?_; rw [sp_row]; simp only [Act.put, List.setIfInBounds_toArray, List.set_cons_succ, List.set_cons_zero]) | go_big_quiet_step (first | (go_at_call 16; exact cls_call _ (fun w hw => HT.out w)) | (go_at_call 17; exact cls_call _ (fun w hw => HP.out w)) | (go_at_call 32; exact cls_call _ (fun w hw => HS.out w)) | (go_at_call 33; exact cls_call _ (fun w hw => HI.out w (E.out.next hw)))))); refine wpQuiet_nil ?_; intro Wn hb; replace P := Go.Lib.hid (row_next hb P.out); replace R := Go.Lib.hid (row_next hb R.out); replace hB := Go.Lib.hid (below_next hB.out hb); replace E := Go.Lib.hid (E.out.next hb); clear hb P' R')
    go_wp2
    go_ret
    exact ⟨rfl, hB.out⟩
end Go.Proofs.YtfdjlflnhhiecaaDoor
