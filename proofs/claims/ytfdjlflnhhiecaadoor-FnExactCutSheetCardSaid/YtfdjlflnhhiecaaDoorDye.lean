import Derived.Test.YtfdjlflnhhiecaaDoorReaders2
namespace Go.Proofs.YtfdjlflnhhiecaaDoor
open Go.RowKit
set_option maxRecDepth 100000
set_option linter.unusedVariables false
def inkB (k : Int) : Bool := decide (0 ≤ k) && decide (k ≤ 2)
theorem linkI_any (k : Int) (w : World) : Calls Tryd.prog 48 #[.int .i64 k] w fun e w' => e = .returned (.bool (inkB k)) ∧ Below w.heap.size w w' := by
  have hB := Go.Lib.hid (Below.refl w.heap.size w)
  by_cases h : 0 ≤ k ∧ k ≤ 2
  · have HR := Go.Lib.hid (show inkB k = true by simp [inkB]; omega)
    obtain ⟨h1, h2⟩ := h
    go_enter Tryd.func48, Tryd.ntmps48
    go_wp2_with (first
    | (go_at_call 52; ((refine (in_yes _ _ _ (by omega) (by omega) _).mono ?_); rintro e w1 ⟨rfl, hb⟩; replace hB := Go.Lib.hid (below_next hB.out hb); clear hb)))
    go_ret
    exact ⟨by rw [HR.out]; rfl, hB.out⟩
  · have h' : k < 0 ∨ 2 < k := by omega
    have HR := Go.Lib.hid (show inkB k = false by simp [inkB]; omega)
    clear h
    go_enter Tryd.func48, Tryd.ntmps48
    go_wp2_with (first
    | (go_at_call 52; ((refine (in_no _ _ _ (by omega) _).mono ?_); rintro e w1 ⟨rfl, hb⟩; replace hB := Go.Lib.hid (below_next hB.out hb); clear hb)))
    go_ret
    exact ⟨by rw [HR.out]; rfl, hB.out⟩
set_option maxHeartbeats 400000 in
theorem checkInk_bad (s : Sh) (x y k : Int) (hv : okI s = false) (e : ErrE) (w : World) (hE : Errs e w) (hf : s.fit := by assumption) : Calls Tryd.prog 49 #[.agg s.row, .agg #[.int .i8 x, .int .i8 y], .int .i64 k] w fun o w' => o = .returned (errP e 1) ∧ Below w.heap.size w w' := by
  rw [sp_vrow]
  have hB : Hid (Below w.heap.size w ((w.alloc (.cells (vrow 266 s.at) 36)).alloc (.cells (vrow 2 (spAt x y)) 38))) := (((Below.refl w.heap.size w).alloc (by simp <;> omega) _).alloc (by simp <;> omega) _)
  have P : Hid (((w.alloc (.cells (vrow 266 s.at) 36)).alloc (.cells (vrow 2 (spAt x y)) 38)).heap[(w.heap.size)]? = some (.cells (vrow 266 s.at) 36)) := heap_past _ _ _ _ (by first | omega | (simp <;> omega)) (heap_at _ _ _ (by simp))
  have R : Hid (((w.alloc (.cells (vrow 266 s.at) 36)).alloc (.cells (vrow 2 (spAt x y)) 38)).heap[(w.heap.size + 1)]? = some (.cells (vrow 2 (spAt x y)) 38)) := heap_at _ _ _ (by simp)
  have E : Hid (Errs e ((w.alloc (.cells (vrow 266 s.at) 36)).alloc (.cells (vrow 2 (spAt x y)) 38))) := ((hE).alloc _).alloc _
  go_enter Tryd.func49, Tryd.ntmps49
  go_wp2_with (first
    | (refine wpList_ld1 66 _ rfl (by first | exact want_n rfl | exact want_g _ _ _ rfl rfl rfl) 2 0 rfl 1 (fun _ => errP e 1) _ rw_err E.out.v1 (by omega) ?_)
    | (refine wpList_ld1 66 _ rfl (by first | exact want_n rfl | exact want_g _ _ _ rfl rfl rfl) 1 0 rfl 1 (fun _ => errP e 2) _ rw_err E.out.v2 (by omega) ?_)
    | (refine wpList_ld1 66 _ rfl (by first | exact want_n rfl | exact want_g _ _ _ rfl rfl rfl) 3 0 rfl 1 (fun _ => errP e 3) _ rw_err E.out.v3 (by omega) ?_)
    | (refine wpList_ld1 66 _ rfl (by first | exact want_n rfl | exact want_g _ _ _ rfl rfl rfl) 4 0 rfl 1 (fun _ => errP e 4) _ rw_err E.out.v4 (by omega) ?_)
    | (refine wpList_ld1 66 _ rfl (by first | exact want_n rfl | exact want_g _ _ _ rfl rfl rfl) 5 0 rfl 1 (fun _ => errP e 5) _ rw_err E.out.v5 (by omega) ?_)
    | (go_at_call 46; (refine (checkCell_bad s x y hv e _ E.out).mono ?_; rintro e w1 ⟨rfl, hb⟩; replace P := Go.Lib.hid (row_next hb P.out); replace R := Go.Lib.hid (row_next hb R.out); replace hB := Go.Lib.hid (below_next hB.out hb); replace E := Go.Lib.hid (E.out.next hb); clear hb ))
    | (refine list_at 8 rfl ?_; intro W hW; rw [hW] at hB E P R; clear hW; have P' := Go.Lib.hid (cls_row' P.out); have R' := Go.Lib.hid (cls_row' R.out); (repeat (first | go_big_quiet_skip | (refine wpQuiet_loadmid 36 _ rfl (by first | exact want_n rfl | exact want_g _ _ _ rfl rfl rfl) (w.heap.size) _ rfl 266 266 s.at _ rw_sheet size_sheet P'.out (by omega) ?_; rw [sh_row]; simp only [Act.put, List.setIfInBounds_toArray, List.set_cons_succ, List.set_cons_zero]) | (refine wpQuiet_loadmid 38 _ rfl (by first | exact want_n rfl | exact want_g _ _ _ rfl rfl rfl) (w.heap.size + 1) _ rfl 2 2 (spAt x y) _ rw_spot size_spot R'.out (by omega) ?_; rw [sp_row]; simp only [Act.put, List.setIfInBounds_toArray, List.set_cons_succ, List.set_cons_zero]) | go_big_quiet_step ((go_at_call 46; exact cls_call _ (fun w hw => checkCell_bad s x y hv e w (E.out.next hw)))))); refine wpQuiet_nil ?_; intro Wn hb; replace P := Go.Lib.hid (row_next hb P.out); replace R := Go.Lib.hid (row_next hb R.out); replace hB := Go.Lib.hid (below_next hB.out hb); replace E := Go.Lib.hid (E.out.next hb); clear hb P' R'))
  go_ret
  exact ⟨rfl, hB.out⟩
set_option maxHeartbeats 400000 in
theorem checkInk_no (s : Sh) (x y k : Int) (hv : okI s = true) (hh : hasB s x y = false) (e : ErrE) (w : World) (hE : Errs e w) : Calls Tryd.prog 49 #[.agg s.row, .agg #[.int .i8 x, .int .i8 y], .int .i64 k] w fun o w' => o = .returned (errP e 2) ∧ Below w.heap.size w w' := by
  rw [sp_vrow]
  have hB : Hid (Below w.heap.size w ((w.alloc (.cells (vrow 266 s.at) 36)).alloc (.cells (vrow 2 (spAt x y)) 38))) := (((Below.refl w.heap.size w).alloc (by simp <;> omega) _).alloc (by simp <;> omega) _)
  have P : Hid (((w.alloc (.cells (vrow 266 s.at) 36)).alloc (.cells (vrow 2 (spAt x y)) 38)).heap[(w.heap.size)]? = some (.cells (vrow 266 s.at) 36)) := heap_past _ _ _ _ (by first | omega | (simp <;> omega)) (heap_at _ _ _ (by simp))
  have R : Hid (((w.alloc (.cells (vrow 266 s.at) 36)).alloc (.cells (vrow 2 (spAt x y)) 38)).heap[(w.heap.size + 1)]? = some (.cells (vrow 2 (spAt x y)) 38)) := heap_at _ _ _ (by simp)
  have E : Hid (Errs e ((w.alloc (.cells (vrow 266 s.at) 36)).alloc (.cells (vrow 2 (spAt x y)) 38))) := ((hE).alloc _).alloc _
  go_enter Tryd.func49, Tryd.ntmps49
  go_wp2_with (first
    | (refine wpList_ld1 66 _ rfl (by first | exact want_n rfl | exact want_g _ _ _ rfl rfl rfl) 2 0 rfl 1 (fun _ => errP e 1) _ rw_err E.out.v1 (by omega) ?_)
    | (refine wpList_ld1 66 _ rfl (by first | exact want_n rfl | exact want_g _ _ _ rfl rfl rfl) 1 0 rfl 1 (fun _ => errP e 2) _ rw_err E.out.v2 (by omega) ?_)
    | (refine wpList_ld1 66 _ rfl (by first | exact want_n rfl | exact want_g _ _ _ rfl rfl rfl) 3 0 rfl 1 (fun _ => errP e 3) _ rw_err E.out.v3 (by omega) ?_)
    | (refine wpList_ld1 66 _ rfl (by first | exact want_n rfl | exact want_g _ _ _ rfl rfl rfl) 4 0 rfl 1 (fun _ => errP e 4) _ rw_err E.out.v4 (by omega) ?_)
    | (refine wpList_ld1 66 _ rfl (by first | exact want_n rfl | exact want_g _ _ _ rfl rfl rfl) 5 0 rfl 1 (fun _ => errP e 5) _ rw_err E.out.v5 (by omega) ?_)
    | (go_at_call 46; (refine (checkCell_no s x y hv hh e _ E.out).mono ?_; rintro e w1 ⟨rfl, hb⟩; replace P := Go.Lib.hid (row_next hb P.out); replace R := Go.Lib.hid (row_next hb R.out); replace hB := Go.Lib.hid (below_next hB.out hb); replace E := Go.Lib.hid (E.out.next hb); clear hb ))
    | (refine list_at 8 rfl ?_; intro W hW; rw [hW] at hB E P R; clear hW; have P' := Go.Lib.hid (cls_row' P.out); have R' := Go.Lib.hid (cls_row' R.out); (repeat (first | go_big_quiet_skip | (refine wpQuiet_loadmid 36 _ rfl (by first | exact want_n rfl | exact want_g _ _ _ rfl rfl rfl) (w.heap.size) _ rfl 266 266 s.at _ rw_sheet size_sheet P'.out (by omega) ?_; rw [sh_row]; simp only [Act.put, List.setIfInBounds_toArray, List.set_cons_succ, List.set_cons_zero]) | (refine wpQuiet_loadmid 38 _ rfl (by first | exact want_n rfl | exact want_g _ _ _ rfl rfl rfl) (w.heap.size + 1) _ rfl 2 2 (spAt x y) _ rw_spot size_spot R'.out (by omega) ?_; rw [sp_row]; simp only [Act.put, List.setIfInBounds_toArray, List.set_cons_succ, List.set_cons_zero]) | go_big_quiet_step ((go_at_call 46; exact cls_call _ (fun w hw => checkCell_no s x y hv hh e w (E.out.next hw)))))); refine wpQuiet_nil ?_; intro Wn hb; replace P := Go.Lib.hid (row_next hb P.out); replace R := Go.Lib.hid (row_next hb R.out); replace hB := Go.Lib.hid (below_next hB.out hb); replace E := Go.Lib.hid (E.out.next hb); clear hb P' R'))
  go_ret
  exact ⟨rfl, hB.out⟩
set_option maxHeartbeats 400000 in
theorem checkInk_un (s : Sh) (x y k : Int) (hv : okI s = true) (hh : hasB s x y = true) (hk : inkB k = false) (e : ErrE) (w : World) (hE : Errs e w) : Calls Tryd.prog 49 #[.agg s.row, .agg #[.int .i8 x, .int .i8 y], .int .i64 k] w fun o w' => o = .returned (errP e 2) ∧ Below w.heap.size w w' := by
  rw [sp_vrow]
  have hB : Hid (Below w.heap.size w ((w.alloc (.cells (vrow 266 s.at) 36)).alloc (.cells (vrow 2 (spAt x y)) 38))) := (((Below.refl w.heap.size w).alloc (by simp <;> omega) _).alloc (by simp <;> omega) _)
  have P : Hid (((w.alloc (.cells (vrow 266 s.at) 36)).alloc (.cells (vrow 2 (spAt x y)) 38)).heap[(w.heap.size)]? = some (.cells (vrow 266 s.at) 36)) := heap_past _ _ _ _ (by first | omega | (simp <;> omega)) (heap_at _ _ _ (by simp))
  have R : Hid (((w.alloc (.cells (vrow 266 s.at) 36)).alloc (.cells (vrow 2 (spAt x y)) 38)).heap[(w.heap.size + 1)]? = some (.cells (vrow 2 (spAt x y)) 38)) := heap_at _ _ _ (by simp)
  have E : Hid (Errs e ((w.alloc (.cells (vrow 266 s.at) 36)).alloc (.cells (vrow 2 (spAt x y)) 38))) := ((hE).alloc _).alloc _
  by_cases hk0 : k < 0
  · clear hk
    go_enter Tryd.func49, Tryd.ntmps49
    go_wp2_with (first
      | (refine wpList_ld1 66 _ rfl (by first | exact want_n rfl | exact want_g _ _ _ rfl rfl rfl) 2 0 rfl 1 (fun _ => errP e 1) _ rw_err E.out.v1 (by omega) ?_)
      | (refine wpList_ld1 66 _ rfl (by first | exact want_n rfl | exact want_g _ _ _ rfl rfl rfl) 1 0 rfl 1 (fun _ => errP e 2) _ rw_err E.out.v2 (by omega) ?_)
      | (refine wpList_ld1 66 _ rfl (by first | exact want_n rfl | exact want_g _ _ _ rfl rfl rfl) 3 0 rfl 1 (fun _ => errP e 3) _ rw_err E.out.v3 (by omega) ?_)
      | (refine wpList_ld1 66 _ rfl (by first | exact want_n rfl | exact want_g _ _ _ rfl rfl rfl) 4 0 rfl 1 (fun _ => errP e 4) _ rw_err E.out.v4 (by omega) ?_)
      | (refine wpList_ld1 66 _ rfl (by first | exact want_n rfl | exact want_g _ _ _ rfl rfl rfl) 5 0 rfl 1 (fun _ => errP e 5) _ rw_err E.out.v5 (by omega) ?_)
      | (go_at_call 46; (refine (checkCell_ok s x y hv hh e _ E.out).mono ?_; rintro e w1 ⟨rfl, hb⟩; replace P := Go.Lib.hid (row_next hb P.out); replace R := Go.Lib.hid (row_next hb R.out); replace hB := Go.Lib.hid (below_next hB.out hb); replace E := Go.Lib.hid (E.out.next hb); clear hb ))
      | (refine list_at 8 rfl ?_; intro W hW; rw [hW] at hB E P R; clear hW; have P' := Go.Lib.hid (cls_row' P.out); have R' := Go.Lib.hid (cls_row' R.out); (repeat (first | go_big_quiet_skip | (refine wpQuiet_loadmid 36 _ rfl (by first | exact want_n rfl | exact want_g _ _ _ rfl rfl rfl) (w.heap.size) _ rfl 266 266 s.at _ rw_sheet size_sheet P'.out (by omega) ?_; rw [sh_row]; simp only [Act.put, List.setIfInBounds_toArray, List.set_cons_succ, List.set_cons_zero]) | (refine wpQuiet_loadmid 38 _ rfl (by first | exact want_n rfl | exact want_g _ _ _ rfl rfl rfl) (w.heap.size + 1) _ rfl 2 2 (spAt x y) _ rw_spot size_spot R'.out (by omega) ?_; rw [sp_row]; simp only [Act.put, List.setIfInBounds_toArray, List.set_cons_succ, List.set_cons_zero]) | go_big_quiet_step ((go_at_call 46; exact cls_call _ (fun w hw => checkCell_ok s x y hv hh e w (E.out.next hw)))))); refine wpQuiet_nil ?_; intro Wn hb; replace P := Go.Lib.hid (row_next hb P.out); replace R := Go.Lib.hid (row_next hb R.out); replace hB := Go.Lib.hid (below_next hB.out hb); replace E := Go.Lib.hid (E.out.next hb); clear hb P' R'))
    go_ret
    exact ⟨rfl, hB.out⟩
  · have hk3 : 3 ≤ k := by simp [inkB] at hk; omega
    clear hk
    go_enter Tryd.func49, Tryd.ntmps49
    go_wp2_with (first
      | (refine wpList_ld1 66 _ rfl (by first | exact want_n rfl | exact want_g _ _ _ rfl rfl rfl) 2 0 rfl 1 (fun _ => errP e 1) _ rw_err E.out.v1 (by omega) ?_)
      | (refine wpList_ld1 66 _ rfl (by first | exact want_n rfl | exact want_g _ _ _ rfl rfl rfl) 1 0 rfl 1 (fun _ => errP e 2) _ rw_err E.out.v2 (by omega) ?_)
      | (refine wpList_ld1 66 _ rfl (by first | exact want_n rfl | exact want_g _ _ _ rfl rfl rfl) 3 0 rfl 1 (fun _ => errP e 3) _ rw_err E.out.v3 (by omega) ?_)
      | (refine wpList_ld1 66 _ rfl (by first | exact want_n rfl | exact want_g _ _ _ rfl rfl rfl) 4 0 rfl 1 (fun _ => errP e 4) _ rw_err E.out.v4 (by omega) ?_)
      | (refine wpList_ld1 66 _ rfl (by first | exact want_n rfl | exact want_g _ _ _ rfl rfl rfl) 5 0 rfl 1 (fun _ => errP e 5) _ rw_err E.out.v5 (by omega) ?_)
      | (go_at_call 46; (refine (checkCell_ok s x y hv hh e _ E.out).mono ?_; rintro e w1 ⟨rfl, hb⟩; replace P := Go.Lib.hid (row_next hb P.out); replace R := Go.Lib.hid (row_next hb R.out); replace hB := Go.Lib.hid (below_next hB.out hb); replace E := Go.Lib.hid (E.out.next hb); clear hb ))
      | (refine list_at 8 rfl ?_; intro W hW; rw [hW] at hB E P R; clear hW; have P' := Go.Lib.hid (cls_row' P.out); have R' := Go.Lib.hid (cls_row' R.out); (repeat (first | go_big_quiet_skip | (refine wpQuiet_loadmid 36 _ rfl (by first | exact want_n rfl | exact want_g _ _ _ rfl rfl rfl) (w.heap.size) _ rfl 266 266 s.at _ rw_sheet size_sheet P'.out (by omega) ?_; rw [sh_row]; simp only [Act.put, List.setIfInBounds_toArray, List.set_cons_succ, List.set_cons_zero]) | (refine wpQuiet_loadmid 38 _ rfl (by first | exact want_n rfl | exact want_g _ _ _ rfl rfl rfl) (w.heap.size + 1) _ rfl 2 2 (spAt x y) _ rw_spot size_spot R'.out (by omega) ?_; rw [sp_row]; simp only [Act.put, List.setIfInBounds_toArray, List.set_cons_succ, List.set_cons_zero]) | go_big_quiet_step ((go_at_call 46; exact cls_call _ (fun w hw => checkCell_ok s x y hv hh e w (E.out.next hw)))))); refine wpQuiet_nil ?_; intro Wn hb; replace P := Go.Lib.hid (row_next hb P.out); replace R := Go.Lib.hid (row_next hb R.out); replace hB := Go.Lib.hid (below_next hB.out hb); replace E := Go.Lib.hid (E.out.next hb); clear hb P' R'))
    go_ret
    exact ⟨rfl, hB.out⟩
set_option maxHeartbeats 400000 in
theorem checkInk_ok (s : Sh) (x y k : Int) (hv : okI s = true) (hh : hasB s x y = true) (hk : inkB k = true) (e : ErrE) (w : World) (hE : Errs e w) : Calls Tryd.prog 49 #[.agg s.row, .agg #[.int .i8 x, .int .i8 y], .int .i64 k] w fun o w' => o = .returned (.nilIface) ∧ Below w.heap.size w w' := by
  rw [sp_vrow]
  have hB : Hid (Below w.heap.size w ((w.alloc (.cells (vrow 266 s.at) 36)).alloc (.cells (vrow 2 (spAt x y)) 38))) := (((Below.refl w.heap.size w).alloc (by simp <;> omega) _).alloc (by simp <;> omega) _)
  have P : Hid (((w.alloc (.cells (vrow 266 s.at) 36)).alloc (.cells (vrow 2 (spAt x y)) 38)).heap[(w.heap.size)]? = some (.cells (vrow 266 s.at) 36)) := heap_past _ _ _ _ (by first | omega | (simp <;> omega)) (heap_at _ _ _ (by simp))
  have R : Hid (((w.alloc (.cells (vrow 266 s.at) 36)).alloc (.cells (vrow 2 (spAt x y)) 38)).heap[(w.heap.size + 1)]? = some (.cells (vrow 2 (spAt x y)) 38)) := heap_at _ _ _ (by simp)
  have E : Hid (Errs e ((w.alloc (.cells (vrow 266 s.at) 36)).alloc (.cells (vrow 2 (spAt x y)) 38))) := ((hE).alloc _).alloc _
  have hk1 : 0 ≤ k ∧ k ≤ 2 := by simpa [inkB] using hk
  obtain ⟨hk1, hk2⟩ := hk1
  have hk3 : k < 3 := by omega
  clear hk
  go_enter Tryd.func49, Tryd.ntmps49
  go_wp2_with (first
    | (refine wpList_ld1 66 _ rfl (by first | exact want_n rfl | exact want_g _ _ _ rfl rfl rfl) 2 0 rfl 1 (fun _ => errP e 1) _ rw_err E.out.v1 (by omega) ?_)
    | (refine wpList_ld1 66 _ rfl (by first | exact want_n rfl | exact want_g _ _ _ rfl rfl rfl) 1 0 rfl 1 (fun _ => errP e 2) _ rw_err E.out.v2 (by omega) ?_)
    | (refine wpList_ld1 66 _ rfl (by first | exact want_n rfl | exact want_g _ _ _ rfl rfl rfl) 3 0 rfl 1 (fun _ => errP e 3) _ rw_err E.out.v3 (by omega) ?_)
    | (refine wpList_ld1 66 _ rfl (by first | exact want_n rfl | exact want_g _ _ _ rfl rfl rfl) 4 0 rfl 1 (fun _ => errP e 4) _ rw_err E.out.v4 (by omega) ?_)
    | (refine wpList_ld1 66 _ rfl (by first | exact want_n rfl | exact want_g _ _ _ rfl rfl rfl) 5 0 rfl 1 (fun _ => errP e 5) _ rw_err E.out.v5 (by omega) ?_)
    | (go_at_call 46; (refine (checkCell_ok s x y hv hh e _ E.out).mono ?_; rintro e w1 ⟨rfl, hb⟩; replace P := Go.Lib.hid (row_next hb P.out); replace R := Go.Lib.hid (row_next hb R.out); replace hB := Go.Lib.hid (below_next hB.out hb); replace E := Go.Lib.hid (E.out.next hb); clear hb ))
    | (refine list_at 8 rfl ?_; intro W hW; rw [hW] at hB E P R; clear hW; have P' := Go.Lib.hid (cls_row' P.out); have R' := Go.Lib.hid (cls_row' R.out); (repeat (first | go_big_quiet_skip | (refine wpQuiet_loadmid 36 _ rfl (by first | exact want_n rfl | exact want_g _ _ _ rfl rfl rfl) (w.heap.size) _ rfl 266 266 s.at _ rw_sheet size_sheet P'.out (by omega) ?_; rw [sh_row]; simp only [Act.put, List.setIfInBounds_toArray, List.set_cons_succ, List.set_cons_zero]) | (refine wpQuiet_loadmid 38 _ rfl (by first | exact want_n rfl | exact want_g _ _ _ rfl rfl rfl) (w.heap.size + 1) _ rfl 2 2 (spAt x y) _ rw_spot size_spot R'.out (by omega) ?_; rw [sp_row]; simp only [Act.put, List.setIfInBounds_toArray, List.set_cons_succ, List.set_cons_zero]) | go_big_quiet_step ((go_at_call 46; exact cls_call _ (fun w hw => checkCell_ok s x y hv hh e w (E.out.next hw)))))); refine wpQuiet_nil ?_; intro Wn hb; replace P := Go.Lib.hid (row_next hb P.out); replace R := Go.Lib.hid (row_next hb R.out); replace hB := Go.Lib.hid (below_next hB.out hb); replace E := Go.Lib.hid (E.out.next hb); clear hb P' R'))
  go_ret
  exact ⟨rfl, hB.out⟩
set_option maxHeartbeats 400000 in
theorem specDye_bad (s : Sh) (x y k : Int) (w : World) (hf : s.fit) (hx : -128 ≤ x ∧ x ≤ 127) (hy : -128 ≤ y ∧ y ≤ 127) (hv : okI s = false) : Calls Tryd.prog 19 #[.agg s.row, .agg #[.int .i8 x, .int .i8 y], .int .i64 k] w fun e w' => e = .returned (.tuple #[.int .i64 0, .int .i64 1]) ∧ Below w.heap.size w w' := by
  have HK0 := fun w => linkI_any k w
  have HK := Go.Lib.hid HK0
  clear HK0
  rw [sp_vrow]
  have hB : Hid (Below w.heap.size w ((w.alloc (.cells (vrow 266 s.at) 36)).alloc (.cells (vrow 2 (spAt x y)) 38))) := (((Below.refl w.heap.size w).alloc (by simp <;> omega) _).alloc (by simp <;> omega) _)
  have P : Hid (((w.alloc (.cells (vrow 266 s.at) 36)).alloc (.cells (vrow 2 (spAt x y)) 38)).heap[(w.heap.size)]? = some (.cells (vrow 266 s.at) 36)) := heap_past _ _ _ _ (by first | omega | (simp <;> omega)) (heap_at _ _ _ (by simp))
  have R : Hid (((w.alloc (.cells (vrow 266 s.at) 36)).alloc (.cells (vrow 2 (spAt x y)) 38)).heap[(w.heap.size + 1)]? = some (.cells (vrow 2 (spAt x y)) 38)) := heap_at _ _ _ (by simp)
  go_enter Tryd.func19, Tryd.ntmps19
  go_wp2
  (refine region_at (by kernel_rfl) (by kernel_rfl) ?_; intro W hW; rw [hW] at hB P R; clear hW; have P' := Go.Lib.hid (cls_row' P.out); have R' := Go.Lib.hid (cls_row' R.out); (repeat (first | go_big_quiet_skip | (refine wpQuiet_loadmid 38 _ rfl (by first | exact want_n rfl | exact want_g _ _ _ rfl rfl rfl) (w.heap.size + 1) _ rfl 2 2 (spAt x y) _ rw_spot size_spot R'.out (by omega) ?_; rw [sp_row]; simp only [Act.put, List.setIfInBounds_toArray, List.set_cons_succ, List.set_cons_zero]) | go_big_quiet_step (first | (go_at_call 48; exact cls_call _ (fun w hw => HK.out w)) | (go_at_call 42; exact cls_call _ (fun w hw => asked_bad s _ x y (inkB k) w (row_next hw P.out) hf hx hy hv))))); refine wpQuiet_nil ?_; intro Wn hb; replace P := Go.Lib.hid (row_next hb P.out); replace R := Go.Lib.hid (row_next hb R.out); replace hB := Go.Lib.hid (below_next hB.out hb); clear hb P' R')
  go_wp2
  go_ret2
  exact ⟨rfl, hB.out⟩
set_option maxHeartbeats 400000 in
theorem specDye_no (s : Sh) (x y k : Int) (w : World) (hf : s.fit) (hx : -128 ≤ x ∧ x ≤ 127) (hy : -128 ≤ y ∧ y ≤ 127) (hv : okI s = true) (hh : hasB s x y = false) : Calls Tryd.prog 19 #[.agg s.row, .agg #[.int .i8 x, .int .i8 y], .int .i64 k] w fun e w' => e = .returned (.tuple #[.int .i64 0, .int .i64 2]) ∧ Below w.heap.size w w' := by
  have HK0 := fun w => linkI_any k w
  have HK := Go.Lib.hid HK0
  clear HK0
  rw [sp_vrow]
  have hB : Hid (Below w.heap.size w ((w.alloc (.cells (vrow 266 s.at) 36)).alloc (.cells (vrow 2 (spAt x y)) 38))) := (((Below.refl w.heap.size w).alloc (by simp <;> omega) _).alloc (by simp <;> omega) _)
  have P : Hid (((w.alloc (.cells (vrow 266 s.at) 36)).alloc (.cells (vrow 2 (spAt x y)) 38)).heap[(w.heap.size)]? = some (.cells (vrow 266 s.at) 36)) := heap_past _ _ _ _ (by first | omega | (simp <;> omega)) (heap_at _ _ _ (by simp))
  have R : Hid (((w.alloc (.cells (vrow 266 s.at) 36)).alloc (.cells (vrow 2 (spAt x y)) 38)).heap[(w.heap.size + 1)]? = some (.cells (vrow 2 (spAt x y)) 38)) := heap_at _ _ _ (by simp)
  go_enter Tryd.func19, Tryd.ntmps19
  go_wp2
  (refine region_at (by kernel_rfl) (by kernel_rfl) ?_; intro W hW; rw [hW] at hB P R; clear hW; have P' := Go.Lib.hid (cls_row' P.out); have R' := Go.Lib.hid (cls_row' R.out); (repeat (first | go_big_quiet_skip | (refine wpQuiet_loadmid 38 _ rfl (by first | exact want_n rfl | exact want_g _ _ _ rfl rfl rfl) (w.heap.size + 1) _ rfl 2 2 (spAt x y) _ rw_spot size_spot R'.out (by omega) ?_; rw [sp_row]; simp only [Act.put, List.setIfInBounds_toArray, List.set_cons_succ, List.set_cons_zero]) | go_big_quiet_step (first | (go_at_call 48; exact cls_call _ (fun w hw => HK.out w)) | (go_at_call 42; exact cls_call _ (fun w hw => asked_no s _ x y (inkB k) w (row_next hw P.out) hf hx hy hv hh))))); refine wpQuiet_nil ?_; intro Wn hb; replace P := Go.Lib.hid (row_next hb P.out); replace R := Go.Lib.hid (row_next hb R.out); replace hB := Go.Lib.hid (below_next hB.out hb); clear hb P' R')
  go_wp2
  go_ret2
  exact ⟨rfl, hB.out⟩
set_option maxHeartbeats 400000 in
theorem specDye_un (s : Sh) (x y k : Int) (w : World) (hf : s.fit) (hx : -128 ≤ x ∧ x ≤ 127) (hy : -128 ≤ y ∧ y ≤ 127) (hv : okI s = true) (hh : hasB s x y = true) (hk : inkB k = false) : Calls Tryd.prog 19 #[.agg s.row, .agg #[.int .i8 x, .int .i8 y], .int .i64 k] w fun e w' => e = .returned (.tuple #[.int .i64 0, .int .i64 2]) ∧ Below w.heap.size w w' := by
  have HK0 := fun w => linkI_any k w
  rw [hk] at HK0
  have HK := Go.Lib.hid HK0
  clear HK0
  rw [sp_vrow]
  have hB : Hid (Below w.heap.size w ((w.alloc (.cells (vrow 266 s.at) 36)).alloc (.cells (vrow 2 (spAt x y)) 38))) := (((Below.refl w.heap.size w).alloc (by simp <;> omega) _).alloc (by simp <;> omega) _)
  have P : Hid (((w.alloc (.cells (vrow 266 s.at) 36)).alloc (.cells (vrow 2 (spAt x y)) 38)).heap[(w.heap.size)]? = some (.cells (vrow 266 s.at) 36)) := heap_past _ _ _ _ (by first | omega | (simp <;> omega)) (heap_at _ _ _ (by simp))
  have R : Hid (((w.alloc (.cells (vrow 266 s.at) 36)).alloc (.cells (vrow 2 (spAt x y)) 38)).heap[(w.heap.size + 1)]? = some (.cells (vrow 2 (spAt x y)) 38)) := heap_at _ _ _ (by simp)
  go_enter Tryd.func19, Tryd.ntmps19
  go_wp2
  (refine region_at (by kernel_rfl) (by kernel_rfl) ?_; intro W hW; rw [hW] at hB P R; clear hW; have P' := Go.Lib.hid (cls_row' P.out); have R' := Go.Lib.hid (cls_row' R.out); (repeat (first | go_big_quiet_skip | (refine wpQuiet_loadmid 38 _ rfl (by first | exact want_n rfl | exact want_g _ _ _ rfl rfl rfl) (w.heap.size + 1) _ rfl 2 2 (spAt x y) _ rw_spot size_spot R'.out (by omega) ?_; rw [sp_row]; simp only [Act.put, List.setIfInBounds_toArray, List.set_cons_succ, List.set_cons_zero]) | go_big_quiet_step (first | (go_at_call 48; exact cls_call _ (fun w hw => HK.out w)) | (go_at_call 42; exact cls_call _ (fun w hw => asked_unfine s _ x y w (row_next hw P.out) hf hx hy hv hh))))); refine wpQuiet_nil ?_; intro Wn hb; replace P := Go.Lib.hid (row_next hb P.out); replace R := Go.Lib.hid (row_next hb R.out); replace hB := Go.Lib.hid (below_next hB.out hb); clear hb P' R')
  go_wp2
  go_ret2
  exact ⟨rfl, hB.out⟩
set_option maxHeartbeats 400000 in
theorem specDye_ok (s : Sh) (x y k : Nat) (w : World) (hf : s.fit) (hx : x < 8) (hy : y < 8) (hk : k < 3) (hv : okI s = true) (hh : hasB s x y = true) : Calls Tryd.prog 19 #[.agg s.row, .agg #[.int .i8 x, .int .i8 y], .int .i64 k] w fun e w' => e = .returned (.tuple #[.int .i64 (s.dye (24 * y + 3 * x + k)), .int .i64 0]) ∧ Below w.heap.size w w' := by
  have HK0 := fun w => linkI_any k w
  rw [show inkB k = true by simp [inkB]; omega] at HK0
  have HK := Go.Lib.hid HK0
  clear HK0
  have hdb := hf.dye (24 * y + 3 * x + k) (by omega)
  rw [sp_vrow]
  have hB : Hid (Below w.heap.size w ((w.alloc (.cells (vrow 266 s.at) 36)).alloc (.cells (vrow 2 (spAt x y)) 38))) := (((Below.refl w.heap.size w).alloc (by simp <;> omega) _).alloc (by simp <;> omega) _)
  have P : Hid (((w.alloc (.cells (vrow 266 s.at) 36)).alloc (.cells (vrow 2 (spAt x y)) 38)).heap[(w.heap.size)]? = some (.cells (vrow 266 s.at) 36)) := heap_past _ _ _ _ (by first | omega | (simp <;> omega)) (heap_at _ _ _ (by simp))
  have R : Hid (((w.alloc (.cells (vrow 266 s.at) 36)).alloc (.cells (vrow 2 (spAt x y)) 38)).heap[(w.heap.size + 1)]? = some (.cells (vrow 2 (spAt x y)) 38)) := heap_at _ _ _ (by simp)
  go_enter Tryd.func19, Tryd.ntmps19
  go_wp2
  (refine region_at (by kernel_rfl) (by kernel_rfl) ?_; intro W hW; rw [hW] at hB P R; clear hW; have P' := Go.Lib.hid (cls_row' P.out); have R' := Go.Lib.hid (cls_row' R.out); (repeat (first | go_big_quiet_skip | (refine wpQuiet_load1 23 _ rfl (by first | exact want_n rfl | exact want_g _ _ _ rfl rfl rfl) (w.heap.size) _ rfl 266 s.at _ rw_i16 P'.out (by omega) ?_; (first | rw [Sh.at_0] | rw [Sh.at_1] | rw [Sh.at_wet1 _ _ (8 * y + x) (by omega) (by omega)] | rw [Sh.at_dye1 _ _ (24 * y + 3 * x + k) (by omega) (by omega)]); simp only [Act.put, List.setIfInBounds_toArray, List.set_cons_succ, List.set_cons_zero]) | (refine wpQuiet_load1 22 _ rfl (by first | exact want_n rfl | exact want_g _ _ _ rfl rfl rfl) (w.heap.size + 1) _ rfl 2 (spAt x y) _ rw_i8 R'.out (by omega) ?_; (first | rw [spAt_0] | rw [spAt_1]); simp only [Act.put, List.setIfInBounds_toArray, List.set_cons_succ, List.set_cons_zero]) | (refine wpQuiet_loadmid 38 _ rfl (by first | exact want_n rfl | exact want_g _ _ _ rfl rfl rfl) (w.heap.size + 1) _ rfl 2 2 (spAt x y) _ rw_spot size_spot R'.out (by omega) ?_; rw [sp_row]; simp only [Act.put, List.setIfInBounds_toArray, List.set_cons_succ, List.set_cons_zero]) | go_big_quiet_step (first | (go_at_call 48; exact cls_call _ (fun w hw => HK.out w)) | (go_at_call 42; exact cls_call _ (fun w hw => asked_ok s _ x y w (row_next hw P.out) hf (by omega) (by omega) hv hh))))); refine wpQuiet_nil ?_; intro Wn hb; replace P := Go.Lib.hid (row_next hb P.out); replace R := Go.Lib.hid (row_next hb R.out); replace hB := Go.Lib.hid (below_next hB.out hb); clear hb P' R')
  go_wp2
  (refine region_at (by kernel_rfl) (by kernel_rfl) ?_; intro W hW; rw [hW] at hB P R; clear hW; have P' := Go.Lib.hid (cls_row' P.out); have R' := Go.Lib.hid (cls_row' R.out); (repeat (first | go_big_quiet_skip | (refine wpQuiet_load1 23 _ rfl (by first | exact want_n rfl | exact want_g _ _ _ rfl rfl rfl) (w.heap.size) _ rfl 266 s.at _ rw_i16 P'.out (by omega) ?_; (first | rw [Sh.at_0] | rw [Sh.at_1] | rw [Sh.at_wet1 _ _ (8 * y + x) (by omega) (by omega)] | rw [Sh.at_dye1 _ _ (24 * y + 3 * x + k) (by omega) (by omega)]); simp only [Act.put, List.setIfInBounds_toArray, List.set_cons_succ, List.set_cons_zero]) | (refine wpQuiet_load1 22 _ rfl (by first | exact want_n rfl | exact want_g _ _ _ rfl rfl rfl) (w.heap.size + 1) _ rfl 2 (spAt x y) _ rw_i8 R'.out (by omega) ?_; (first | rw [spAt_0] | rw [spAt_1]); simp only [Act.put, List.setIfInBounds_toArray, List.set_cons_succ, List.set_cons_zero]) | (refine wpQuiet_loadmid 38 _ rfl (by first | exact want_n rfl | exact want_g _ _ _ rfl rfl rfl) (w.heap.size + 1) _ rfl 2 2 (spAt x y) _ rw_spot size_spot R'.out (by omega) ?_; rw [sp_row]; simp only [Act.put, List.setIfInBounds_toArray, List.set_cons_succ, List.set_cons_zero]) | go_big_quiet_step (fail))); refine wpQuiet_nil ?_; intro Wn hb; replace P := Go.Lib.hid (row_next hb P.out); replace R := Go.Lib.hid (row_next hb R.out); replace hB := Go.Lib.hid (below_next hB.out hb); clear hb P' R')
  go_wp2
  go_ret2
  exact ⟨rfl, hB.out⟩
set_option maxHeartbeats 400000 in
theorem implDye_bad (s : Sh) (x y k : Int) (e : ErrE) (w : World) (hE : Errs e w) (hv : okI s = false) (hf : s.fit := by assumption) : Calls Tryd.prog 20 #[.agg s.row, .agg #[.int .i8 x, .int .i8 y], .int .i64 k] w fun o w' => o = .returned (.tuple #[.int .i64 0, .int .i64 1]) ∧ Below w.heap.size w w' := by
  rw [sp_vrow]
  have hB : Hid (Below w.heap.size w ((w.alloc (.cells (vrow 266 s.at) 36)).alloc (.cells (vrow 2 (spAt x y)) 38))) := (((Below.refl w.heap.size w).alloc (by simp <;> omega) _).alloc (by simp <;> omega) _)
  have P : Hid (((w.alloc (.cells (vrow 266 s.at) 36)).alloc (.cells (vrow 2 (spAt x y)) 38)).heap[(w.heap.size)]? = some (.cells (vrow 266 s.at) 36)) := heap_past _ _ _ _ (by first | omega | (simp <;> omega)) (heap_at _ _ _ (by simp))
  have R : Hid (((w.alloc (.cells (vrow 266 s.at) 36)).alloc (.cells (vrow 2 (spAt x y)) 38)).heap[(w.heap.size + 1)]? = some (.cells (vrow 2 (spAt x y)) 38)) := heap_at _ _ _ (by simp)
  have E : Hid (Errs e ((w.alloc (.cells (vrow 266 s.at) 36)).alloc (.cells (vrow 2 (spAt x y)) 38))) := ((hE).alloc _).alloc _
  go_enter Tryd.func20, Tryd.ntmps20
  go_wp2_with (first
    | (go_at_call 49; (refine (checkInk_bad s x y k hv e _ E.out).mono ?_; rintro e w1 ⟨rfl, hb⟩; replace P := Go.Lib.hid (row_next hb P.out); replace R := Go.Lib.hid (row_next hb R.out); replace hB := Go.Lib.hid (below_next hB.out hb); replace E := Go.Lib.hid (E.out.next hb); clear hb ))
    | (go_at_call 47; (refine (codeOf_1 e _ E.out).mono ?_; rintro e w1 ⟨rfl, hb⟩; replace P := Go.Lib.hid (row_next hb P.out); replace R := Go.Lib.hid (row_next hb R.out); replace hB := Go.Lib.hid (below_next hB.out hb); replace E := Go.Lib.hid (E.out.next hb); clear hb ))
    | (refine list_at 9 rfl ?_; intro W hW; rw [hW] at hB E P R; clear hW; have P' := Go.Lib.hid (cls_row' P.out); have R' := Go.Lib.hid (cls_row' R.out); (repeat (first | go_big_quiet_skip | (refine wpQuiet_loadmid 36 _ rfl (by first | exact want_n rfl | exact want_g _ _ _ rfl rfl rfl) (w.heap.size) _ rfl 266 266 s.at _ rw_sheet size_sheet P'.out (by omega) ?_; rw [sh_row]; simp only [Act.put, List.setIfInBounds_toArray, List.set_cons_succ, List.set_cons_zero]) | (refine wpQuiet_loadmid 38 _ rfl (by first | exact want_n rfl | exact want_g _ _ _ rfl rfl rfl) (w.heap.size + 1) _ rfl 2 2 (spAt x y) _ rw_spot size_spot R'.out (by omega) ?_; rw [sp_row]; simp only [Act.put, List.setIfInBounds_toArray, List.set_cons_succ, List.set_cons_zero]) | go_big_quiet_step (first | (go_at_call 49; exact cls_call _ (fun w hw => checkInk_bad s x y k hv e w (E.out.next hw))) | (go_at_call 47; exact cls_call _ (fun w hw => codeOf_1 e w (E.out.next hw)))))); refine wpQuiet_nil ?_; intro Wn hb; replace P := Go.Lib.hid (row_next hb P.out); replace R := Go.Lib.hid (row_next hb R.out); replace hB := Go.Lib.hid (below_next hB.out hb); replace E := Go.Lib.hid (E.out.next hb); clear hb P' R'))
  go_ret2
  exact ⟨rfl, hB.out⟩
set_option maxHeartbeats 400000 in
theorem implDye_no (s : Sh) (x y k : Int) (e : ErrE) (w : World) (hE : Errs e w) (hv : okI s = true) (hh : hasB s x y = false) : Calls Tryd.prog 20 #[.agg s.row, .agg #[.int .i8 x, .int .i8 y], .int .i64 k] w fun o w' => o = .returned (.tuple #[.int .i64 0, .int .i64 2]) ∧ Below w.heap.size w w' := by
  rw [sp_vrow]
  have hB : Hid (Below w.heap.size w ((w.alloc (.cells (vrow 266 s.at) 36)).alloc (.cells (vrow 2 (spAt x y)) 38))) := (((Below.refl w.heap.size w).alloc (by simp <;> omega) _).alloc (by simp <;> omega) _)
  have P : Hid (((w.alloc (.cells (vrow 266 s.at) 36)).alloc (.cells (vrow 2 (spAt x y)) 38)).heap[(w.heap.size)]? = some (.cells (vrow 266 s.at) 36)) := heap_past _ _ _ _ (by first | omega | (simp <;> omega)) (heap_at _ _ _ (by simp))
  have R : Hid (((w.alloc (.cells (vrow 266 s.at) 36)).alloc (.cells (vrow 2 (spAt x y)) 38)).heap[(w.heap.size + 1)]? = some (.cells (vrow 2 (spAt x y)) 38)) := heap_at _ _ _ (by simp)
  have E : Hid (Errs e ((w.alloc (.cells (vrow 266 s.at) 36)).alloc (.cells (vrow 2 (spAt x y)) 38))) := ((hE).alloc _).alloc _
  go_enter Tryd.func20, Tryd.ntmps20
  go_wp2_with (first
    | (go_at_call 49; (refine (checkInk_no s x y k hv hh e _ E.out).mono ?_; rintro e w1 ⟨rfl, hb⟩; replace P := Go.Lib.hid (row_next hb P.out); replace R := Go.Lib.hid (row_next hb R.out); replace hB := Go.Lib.hid (below_next hB.out hb); replace E := Go.Lib.hid (E.out.next hb); clear hb ))
    | (go_at_call 47; (refine (codeOf_2 e _ E.out).mono ?_; rintro e w1 ⟨rfl, hb⟩; replace P := Go.Lib.hid (row_next hb P.out); replace R := Go.Lib.hid (row_next hb R.out); replace hB := Go.Lib.hid (below_next hB.out hb); replace E := Go.Lib.hid (E.out.next hb); clear hb ))
    | (refine list_at 9 rfl ?_; intro W hW; rw [hW] at hB E P R; clear hW; have P' := Go.Lib.hid (cls_row' P.out); have R' := Go.Lib.hid (cls_row' R.out); (repeat (first | go_big_quiet_skip | (refine wpQuiet_loadmid 36 _ rfl (by first | exact want_n rfl | exact want_g _ _ _ rfl rfl rfl) (w.heap.size) _ rfl 266 266 s.at _ rw_sheet size_sheet P'.out (by omega) ?_; rw [sh_row]; simp only [Act.put, List.setIfInBounds_toArray, List.set_cons_succ, List.set_cons_zero]) | (refine wpQuiet_loadmid 38 _ rfl (by first | exact want_n rfl | exact want_g _ _ _ rfl rfl rfl) (w.heap.size + 1) _ rfl 2 2 (spAt x y) _ rw_spot size_spot R'.out (by omega) ?_; rw [sp_row]; simp only [Act.put, List.setIfInBounds_toArray, List.set_cons_succ, List.set_cons_zero]) | go_big_quiet_step (first | (go_at_call 49; exact cls_call _ (fun w hw => checkInk_no s x y k hv hh e w (E.out.next hw))) | (go_at_call 47; exact cls_call _ (fun w hw => codeOf_2 e w (E.out.next hw)))))); refine wpQuiet_nil ?_; intro Wn hb; replace P := Go.Lib.hid (row_next hb P.out); replace R := Go.Lib.hid (row_next hb R.out); replace hB := Go.Lib.hid (below_next hB.out hb); replace E := Go.Lib.hid (E.out.next hb); clear hb P' R'))
  go_ret2
  exact ⟨rfl, hB.out⟩
set_option maxHeartbeats 400000 in
theorem implDye_un (s : Sh) (x y k : Int) (e : ErrE) (w : World) (hE : Errs e w) (hv : okI s = true) (hh : hasB s x y = true) (hk : inkB k = false) : Calls Tryd.prog 20 #[.agg s.row, .agg #[.int .i8 x, .int .i8 y], .int .i64 k] w fun o w' => o = .returned (.tuple #[.int .i64 0, .int .i64 2]) ∧ Below w.heap.size w w' := by
  rw [sp_vrow]
  have hB : Hid (Below w.heap.size w ((w.alloc (.cells (vrow 266 s.at) 36)).alloc (.cells (vrow 2 (spAt x y)) 38))) := (((Below.refl w.heap.size w).alloc (by simp <;> omega) _).alloc (by simp <;> omega) _)
  have P : Hid (((w.alloc (.cells (vrow 266 s.at) 36)).alloc (.cells (vrow 2 (spAt x y)) 38)).heap[(w.heap.size)]? = some (.cells (vrow 266 s.at) 36)) := heap_past _ _ _ _ (by first | omega | (simp <;> omega)) (heap_at _ _ _ (by simp))
  have R : Hid (((w.alloc (.cells (vrow 266 s.at) 36)).alloc (.cells (vrow 2 (spAt x y)) 38)).heap[(w.heap.size + 1)]? = some (.cells (vrow 2 (spAt x y)) 38)) := heap_at _ _ _ (by simp)
  have E : Hid (Errs e ((w.alloc (.cells (vrow 266 s.at) 36)).alloc (.cells (vrow 2 (spAt x y)) 38))) := ((hE).alloc _).alloc _
  go_enter Tryd.func20, Tryd.ntmps20
  go_wp2_with (first
    | (go_at_call 49; (refine (checkInk_un s x y k hv hh hk e _ E.out).mono ?_; rintro e w1 ⟨rfl, hb⟩; replace P := Go.Lib.hid (row_next hb P.out); replace R := Go.Lib.hid (row_next hb R.out); replace hB := Go.Lib.hid (below_next hB.out hb); replace E := Go.Lib.hid (E.out.next hb); clear hb ))
    | (go_at_call 47; (refine (codeOf_2 e _ E.out).mono ?_; rintro e w1 ⟨rfl, hb⟩; replace P := Go.Lib.hid (row_next hb P.out); replace R := Go.Lib.hid (row_next hb R.out); replace hB := Go.Lib.hid (below_next hB.out hb); replace E := Go.Lib.hid (E.out.next hb); clear hb ))
    | (refine list_at 9 rfl ?_; intro W hW; rw [hW] at hB E P R; clear hW; have P' := Go.Lib.hid (cls_row' P.out); have R' := Go.Lib.hid (cls_row' R.out); (repeat (first | go_big_quiet_skip | (refine wpQuiet_loadmid 36 _ rfl (by first | exact want_n rfl | exact want_g _ _ _ rfl rfl rfl) (w.heap.size) _ rfl 266 266 s.at _ rw_sheet size_sheet P'.out (by omega) ?_; rw [sh_row]; simp only [Act.put, List.setIfInBounds_toArray, List.set_cons_succ, List.set_cons_zero]) | (refine wpQuiet_loadmid 38 _ rfl (by first | exact want_n rfl | exact want_g _ _ _ rfl rfl rfl) (w.heap.size + 1) _ rfl 2 2 (spAt x y) _ rw_spot size_spot R'.out (by omega) ?_; rw [sp_row]; simp only [Act.put, List.setIfInBounds_toArray, List.set_cons_succ, List.set_cons_zero]) | go_big_quiet_step (first | (go_at_call 49; exact cls_call _ (fun w hw => checkInk_un s x y k hv hh hk e w (E.out.next hw))) | (go_at_call 47; exact cls_call _ (fun w hw => codeOf_2 e w (E.out.next hw)))))); refine wpQuiet_nil ?_; intro Wn hb; replace P := Go.Lib.hid (row_next hb P.out); replace R := Go.Lib.hid (row_next hb R.out); replace hB := Go.Lib.hid (below_next hB.out hb); replace E := Go.Lib.hid (E.out.next hb); clear hb P' R'))
  go_ret2
  exact ⟨rfl, hB.out⟩
set_option maxHeartbeats 400000 in
theorem implDye_ok (s : Sh) (x y k : Nat) (e : ErrE) (w : World) (hE : Errs e w) (hf : s.fit) (hx : x < 8) (hy : y < 8) (hk : k < 3) (hv : okI s = true) (hh : hasB s x y = true) : Calls Tryd.prog 20 #[.agg s.row, .agg #[.int .i8 x, .int .i8 y], .int .i64 k] w fun o w' => o = .returned (.tuple #[.int .i64 (s.dye (24 * y + 3 * x + k)), .int .i64 0]) ∧ Below w.heap.size w w' := by
  have hdb := hf.dye (24 * y + 3 * x + k) (by omega)
  have HKK := Go.Lib.hid (show inkB k = true by simp [inkB]; omega)
  rw [sp_vrow]
  have hB : Hid (Below w.heap.size w ((w.alloc (.cells (vrow 266 s.at) 36)).alloc (.cells (vrow 2 (spAt x y)) 38))) := (((Below.refl w.heap.size w).alloc (by simp <;> omega) _).alloc (by simp <;> omega) _)
  have P : Hid (((w.alloc (.cells (vrow 266 s.at) 36)).alloc (.cells (vrow 2 (spAt x y)) 38)).heap[(w.heap.size)]? = some (.cells (vrow 266 s.at) 36)) := heap_past _ _ _ _ (by first | omega | (simp <;> omega)) (heap_at _ _ _ (by simp))
  have R : Hid (((w.alloc (.cells (vrow 266 s.at) 36)).alloc (.cells (vrow 2 (spAt x y)) 38)).heap[(w.heap.size + 1)]? = some (.cells (vrow 2 (spAt x y)) 38)) := heap_at _ _ _ (by simp)
  have E : Hid (Errs e ((w.alloc (.cells (vrow 266 s.at) 36)).alloc (.cells (vrow 2 (spAt x y)) 38))) := ((hE).alloc _).alloc _
  go_enter Tryd.func20, Tryd.ntmps20
  go_wp2_with (first
    | (go_at_call 49; (refine (checkInk_ok s x y k hv hh HKK.out e _ E.out).mono ?_; rintro e w1 ⟨rfl, hb⟩; replace P := Go.Lib.hid (row_next hb P.out); replace R := Go.Lib.hid (row_next hb R.out); replace hB := Go.Lib.hid (below_next hB.out hb); replace E := Go.Lib.hid (E.out.next hb); clear hb ))
    | (refine list_at 9 rfl ?_; intro W hW; rw [hW] at hB E P R; clear hW; have P' := Go.Lib.hid (cls_row' P.out); have R' := Go.Lib.hid (cls_row' R.out); (repeat (first | go_big_quiet_skip | (refine wpQuiet_load1 23 _ rfl (by first | exact want_n rfl | exact want_g _ _ _ rfl rfl rfl) (w.heap.size) _ rfl 266 s.at _ rw_i16 P'.out (by omega) ?_; (first | rw [Sh.at_0] | rw [Sh.at_1] | rw [Sh.at_wet1 _ _ (8 * y + x) (by omega) (by omega)] | rw [Sh.at_dye1 _ _ (24 * y + 3 * x + k) (by omega) (by omega)]); simp only [Act.put, List.setIfInBounds_toArray, List.set_cons_succ, List.set_cons_zero]) | (refine wpQuiet_loadmid 36 _ rfl (by first | exact want_n rfl | exact want_g _ _ _ rfl rfl rfl) (w.heap.size) _ rfl 266 266 s.at _ rw_sheet size_sheet P'.out (by omega) ?_; rw [sh_row]; simp only [Act.put, List.setIfInBounds_toArray, List.set_cons_succ, List.set_cons_zero]) | (refine wpQuiet_load1 22 _ rfl (by first | exact want_n rfl | exact want_g _ _ _ rfl rfl rfl) (w.heap.size + 1) _ rfl 2 (spAt x y) _ rw_i8 R'.out (by omega) ?_; (first | rw [spAt_0] | rw [spAt_1]); simp only [Act.put, List.setIfInBounds_toArray, List.set_cons_succ, List.set_cons_zero]) | (refine wpQuiet_loadmid 38 _ rfl (by first | exact want_n rfl | exact want_g _ _ _ rfl rfl rfl) (w.heap.size + 1) _ rfl 2 2 (spAt x y) _ rw_spot size_spot R'.out (by omega) ?_; rw [sp_row]; simp only [Act.put, List.setIfInBounds_toArray, List.set_cons_succ, List.set_cons_zero]) | go_big_quiet_step ((go_at_call 49; exact cls_call _ (fun w hw => checkInk_ok s x y k hv hh HKK.out e w (E.out.next hw)))))); refine wpQuiet_nil ?_; intro Wn hb; replace P := Go.Lib.hid (row_next hb P.out); replace R := Go.Lib.hid (row_next hb R.out); replace hB := Go.Lib.hid (below_next hB.out hb); replace E := Go.Lib.hid (E.out.next hb); clear hb P' R'))
  (refine region_at (by kernel_rfl) (by kernel_rfl) ?_; intro W hW; rw [hW] at hB E P R; clear hW; have P' := Go.Lib.hid (cls_row' P.out); have R' := Go.Lib.hid (cls_row' R.out); (repeat (first | go_big_quiet_skip | (refine wpQuiet_load1 23 _ rfl (by first | exact want_n rfl | exact want_g _ _ _ rfl rfl rfl) (w.heap.size) _ rfl 266 s.at _ rw_i16 P'.out (by omega) ?_; (first | rw [Sh.at_0] | rw [Sh.at_1] | rw [Sh.at_wet1 _ _ (8 * y + x) (by omega) (by omega)] | rw [Sh.at_dye1 _ _ (24 * y + 3 * x + k) (by omega) (by omega)]); simp only [Act.put, List.setIfInBounds_toArray, List.set_cons_succ, List.set_cons_zero]) | (refine wpQuiet_loadmid 36 _ rfl (by first | exact want_n rfl | exact want_g _ _ _ rfl rfl rfl) (w.heap.size) _ rfl 266 266 s.at _ rw_sheet size_sheet P'.out (by omega) ?_; rw [sh_row]; simp only [Act.put, List.setIfInBounds_toArray, List.set_cons_succ, List.set_cons_zero]) | (refine wpQuiet_load1 22 _ rfl (by first | exact want_n rfl | exact want_g _ _ _ rfl rfl rfl) (w.heap.size + 1) _ rfl 2 (spAt x y) _ rw_i8 R'.out (by omega) ?_; (first | rw [spAt_0] | rw [spAt_1]); simp only [Act.put, List.setIfInBounds_toArray, List.set_cons_succ, List.set_cons_zero]) | (refine wpQuiet_loadmid 38 _ rfl (by first | exact want_n rfl | exact want_g _ _ _ rfl rfl rfl) (w.heap.size + 1) _ rfl 2 2 (spAt x y) _ rw_spot size_spot R'.out (by omega) ?_; rw [sp_row]; simp only [Act.put, List.setIfInBounds_toArray, List.set_cons_succ, List.set_cons_zero]) | go_big_quiet_step (fail))); refine wpQuiet_nil ?_; intro Wn hb; replace P := Go.Lib.hid (row_next hb P.out); replace R := Go.Lib.hid (row_next hb R.out); replace hB := Go.Lib.hid (below_next hB.out hb); replace E := Go.Lib.hid (E.out.next hb); clear hb P' R')
  go_wp2
  go_ret2
  exact ⟨rfl, hB.out⟩
end Go.Proofs.YtfdjlflnhhiecaaDoor
