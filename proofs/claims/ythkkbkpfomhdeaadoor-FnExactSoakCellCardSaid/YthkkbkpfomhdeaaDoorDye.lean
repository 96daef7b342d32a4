import Derived.Test.YthkkbkpfomhdeaaDoorReaders2
namespace Go.Proofs.YthkkbkpfomhdeaaDoor
open Go.RowKit
set_option maxRecDepth 100000
set_option linter.unusedVariables false
def inkB (k : Int) : Bool := decide (0 ≤ k) && decide (k ≤ 2)
theorem linkI_any (k : Int) (w : World) : Calls Tryd.prog 45 #[.int .i64 k] w fun e w' => e = .returned (.bool (inkB k)) ∧ Below w.heap.size w w' := by
  have hB := Go.Lib.hid (Below.refl w.heap.size w)
  by_cases h : 0 ≤ k ∧ k ≤ 2
  · have HR := Go.Lib.hid (show inkB k = true by simp [inkB]; omega)
    obtain ⟨h1, h2⟩ := h
    go_enter Tryd.func45, Tryd.ntmps45
    go_wp2_with (first
    | (go_at_call 46; ((refine (in_yes _ _ _ (by omega) (by omega) _).mono ?_); rintro e w1 ⟨rfl, hb⟩; replace hB := Go.Lib.hid (below_next hB.out hb); clear hb)))
    go_ret
    exact ⟨by rw [HR.out]; rfl, hB.out⟩
  · have h' : k < 0 ∨ 2 < k := by omega
    have HR := Go.Lib.hid (show inkB k = false by simp [inkB]; omega)
    clear h
    go_enter Tryd.func45, Tryd.ntmps45
    go_wp2_with (first
    | (go_at_call 46; ((refine (in_no _ _ _ (by omega) _).mono ?_); rintro e w1 ⟨rfl, hb⟩; replace hB := Go.Lib.hid (below_next hB.out hb); clear hb)))
    go_ret
    exact ⟨by rw [HR.out]; rfl, hB.out⟩
set_option maxHeartbeats 400000 in
theorem checkInk_bad (s : Sh) (x y k : Int) (hv : okI s = false) (e : ErrE) (w : World) (hE : Errs e w) (hf : s.fit := by assumption) : Calls Tryd.prog 150 #[.agg s.row, .agg #[.int .i8 x, .int .i8 y], .int .i64 k] w fun o w' => o = .returned (errP e 1) ∧ Below w.heap.size w w' := by
  rw [sp_vrow]
  have hB : Hid (Below w.heap.size w ((w.alloc (.cells (vrow 266 s.at) 47)).alloc (.cells (vrow 2 (spAt x y)) 51))) := (((Below.refl w.heap.size w).alloc (by simp <;> omega) _).alloc (by simp <;> omega) _)
  have P : Hid (((w.alloc (.cells (vrow 266 s.at) 47)).alloc (.cells (vrow 2 (spAt x y)) 51)).heap[(w.heap.size)]? = some (.cells (vrow 266 s.at) 47)) := heap_past _ _ _ _ (by first | omega | (simp <;> omega)) (heap_at _ _ _ (by simp))
  have R : Hid (((w.alloc (.cells (vrow 266 s.at) 47)).alloc (.cells (vrow 2 (spAt x y)) 51)).heap[(w.heap.size + 1)]? = some (.cells (vrow 2 (spAt x y)) 51)) := heap_at _ _ _ (by simp)
  have E : Hid (Errs e ((w.alloc (.cells (vrow 266 s.at) 47)).alloc (.cells (vrow 2 (spAt x y)) 51))) := ((hE).alloc _).alloc _
  go_enter Tryd.func150, Tryd.ntmps150
  go_wp2_with (first
    | (refine wpList_ld1 90 _ rfl (by first | exact want_n rfl | exact want_g _ _ _ rfl rfl rfl) 1 0 rfl 1 (fun _ => errP e 1) _ rw_err E.out.v1 (by omega) ?_)
    | (refine wpList_ld1 90 _ rfl (by first | exact want_n rfl | exact want_g _ _ _ rfl rfl rfl) 0 0 rfl 1 (fun _ => errP e 2) _ rw_err E.out.v2 (by omega) ?_)
    | (refine wpList_ld1 90 _ rfl (by first | exact want_n rfl | exact want_g _ _ _ rfl rfl rfl) 2 0 rfl 1 (fun _ => errP e 3) _ rw_err E.out.v3 (by omega) ?_)
    | (refine wpList_ld1 90 _ rfl (by first | exact want_n rfl | exact want_g _ _ _ rfl rfl rfl) 3 0 rfl 1 (fun _ => errP e 4) _ rw_err E.out.v4 (by omega) ?_)
    | (refine wpList_ld1 90 _ rfl (by first | exact want_n rfl | exact want_g _ _ _ rfl rfl rfl) 4 0 rfl 1 (fun _ => errP e 5) _ rw_err E.out.v5 (by omega) ?_)
    | (go_at_call 123; (refine (checkCell_bad s x y hv e _ E.out).mono ?_; rintro e w1 ⟨rfl, hb⟩; replace P := Go.Lib.hid (row_next hb P.out); replace R := Go.Lib.hid (row_next hb R.out); replace hB := Go.Lib.hid (below_next hB.out hb); replace E := Go.Lib.hid (E.out.next hb); clear hb ))
    | (refine list_at 8 rfl ?_; intro W hW; rw [hW] at hB E P R; clear hW; have P' := Go.Lib.hid (cls_row' P.out); have R' := Go.Lib.hid (cls_row' R.out); (repeat (first | go_big_quiet_skip | (refine wpQuiet_loadmid 47 _ rfl (by first | exact want_n rfl | exact want_g _ _ _ rfl rfl rfl) (w.heap.size) _ rfl 266 266 s.at _ rw_sheet size_sheet P'.out (by omega) ?_; rw [sh_row]; simp only [Act.put, List.setIfInBounds_toArray, List.set_cons_succ, List.set_cons_zero]) | (refine wpQuiet_loadmid 51 _ rfl (by first | exact want_n rfl | exact want_g _ _ _ rfl rfl rfl) (w.heap.size + 1) _ rfl 2 2 (spAt x y) _ rw_spot size_spot R'.out (by omega) ?_; rw [sp_row]; simp only [Act.put, List.setIfInBounds_toArray, List.set_cons_succ, List.set_cons_zero]) | go_big_quiet_step ((go_at_call 123; exact cls_call _ (fun w hw => checkCell_bad s x y hv e w (E.out.next hw)))))); refine wpQuiet_nil ?_; intro Wn hb; replace P := Go.Lib.hid (row_next hb P.out); replace R := Go.Lib.hid (row_next hb R.out); replace hB := Go.Lib.hid (below_next hB.out hb); replace E := Go.Lib.hid (E.out.next hb); clear hb P' R'))
  go_ret
  exact ⟨rfl, hB.out⟩
set_option maxHeartbeats 400000 in
theorem checkInk_no (s : Sh) (x y k : Int) (hv : okI s = true) (hh : hasB s x y = false) (e : ErrE) (w : World) (hE : Errs e w) : Calls Tryd.prog 150 #[.agg s.row, .agg #[.int .i8 x, .int .i8 y], .int .i64 k] w fun o w' => o = .returned (errP e 2) ∧ Below w.heap.size w w' := by
  rw [sp_vrow]
  have hB : Hid (Below w.heap.size w ((w.alloc (.cells (vrow 266 s.at) 47)).alloc (.cells (vrow 2 (spAt x y)) 51))) := (((Below.refl w.heap.size w).alloc (by simp <;> omega) _).alloc (by simp <;> omega) _)
  have P : Hid (((w.alloc (.cells (vrow 266 s.at) 47)).alloc (.cells (vrow 2 (spAt x y)) 51)).heap[(w.heap.size)]? = some (.cells (vrow 266 s.at) 47)) := heap_past _ _ _ _ (by first | omega | (simp <;> omega)) (heap_at _ _ _ (by simp))
  have R : Hid (((w.alloc (.cells (vrow 266 s.at) 47)).alloc (.cells (vrow 2 (spAt x y)) 51)).heap[(w.heap.size + 1)]? = some (.cells (vrow 2 (spAt x y)) 51)) := heap_at _ _ _ (by simp)
  have E : Hid (Errs e ((w.alloc (.cells (vrow 266 s.at) 47)).alloc (.cells (vrow 2 (spAt x y)) 51))) := ((hE).alloc _).alloc _
  go_enter Tryd.func150, Tryd.ntmps150
  go_wp2_with (first
    | (refine wpList_ld1 90 _ rfl (by first | exact want_n rfl | exact want_g _ _ _ rfl rfl rfl) 1 0 rfl 1 (fun _ => errP e 1) _ rw_err E.out.v1 (by omega) ?_)
    | (refine wpList_ld1 90 _ rfl (by first | exact want_n rfl | exact want_g _ _ _ rfl rfl rfl) 0 0 rfl 1 (fun _ => errP e 2) _ rw_err E.out.v2 (by omega) ?_)
    | (refine wpList_ld1 90 _ rfl (by first | exact want_n rfl | exact want_g _ _ _ rfl rfl rfl) 2 0 rfl 1 (fun _ => errP e 3) _ rw_err E.out.v3 (by omega) ?_)
    | (refine wpList_ld1 90 _ rfl (by first | exact want_n rfl | exact want_g _ _ _ rfl rfl rfl) 3 0 rfl 1 (fun _ => errP e 4) _ rw_err E.out.v4 (by omega) ?_)
    | (refine wpList_ld1 90 _ rfl (by first | exact want_n rfl | exact want_g _ _ _ rfl rfl rfl) 4 0 rfl 1 (fun _ => errP e 5) _ rw_err E.out.v5 (by omega) ?_)
    | (go_at_call 123; (refine (checkCell_no s x y hv hh e _ E.out).mono ?_; rintro e w1 ⟨rfl, hb⟩; replace P := Go.Lib.hid (row_next hb P.out); replace R := Go.Lib.hid (row_next hb R.out); replace hB := Go.Lib.hid (below_next hB.out hb); replace E := Go.Lib.hid (E.out.next hb); clear hb ))
    | (refine list_at 8 rfl ?_; intro W hW; rw [hW] at hB E P R; clear hW; have P' := Go.Lib.hid (cls_row' P.out); have R' := Go.Lib.hid (cls_row' R.out); (repeat (first | go_big_quiet_skip | (refine wpQuiet_loadmid 47 _ rfl (by first | exact want_n rfl | exact want_g _ _ _ rfl rfl rfl) (w.heap.size) _ rfl 266 266 s.at _ rw_sheet size_sheet P'.out (by omega) ?_; rw [sh_row]; simp only [Act.put, List.setIfInBounds_toArray, List.set_cons_succ, List.set_cons_zero]) | (refine wpQuiet_loadmid 51 _ rfl (by first | exact want_n rfl | exact want_g _ _ _ rfl rfl rfl) (w.heap.size + 1) _ rfl 2 2 (spAt x y) _ rw_spot size_spot R'.out (by omega) ?_; rw [sp_row]; simp only [Act.put, List.setIfInBounds_toArray, List.set_cons_succ, List.set_cons_zero]) | go_big_quiet_step ((go_at_call 123; exact cls_call _ (fun w hw => checkCell_no s x y hv hh e w (E.out.next hw)))))); refine wpQuiet_nil ?_; intro Wn hb; replace P := Go.Lib.hid (row_next hb P.out); replace R := Go.Lib.hid (row_next hb R.out); replace hB := Go.Lib.hid (below_next hB.out hb); replace E := Go.Lib.hid (E.out.next hb); clear hb P' R'))
  go_ret
  exact ⟨rfl, hB.out⟩
set_option maxHeartbeats 400000 in
theorem checkInk_un (s : Sh) (x y k : Int) (hv : okI s = true) (hh : hasB s x y = true) (hk : inkB k = false) (e : ErrE) (w : World) (hE : Errs e w) : Calls Tryd.prog 150 #[.agg s.row, .agg #[.int .i8 x, .int .i8 y], .int .i64 k] w fun o w' => o = .returned (errP e 2) ∧ Below w.heap.size w w' := by
  rw [sp_vrow]
  have hB : Hid (Below w.heap.size w ((w.alloc (.cells (vrow 266 s.at) 47)).alloc (.cells (vrow 2 (spAt x y)) 51))) := (((Below.refl w.heap.size w).alloc (by simp <;> omega) _).alloc (by simp <;> omega) _)
  have P : Hid (((w.alloc (.cells (vrow 266 s.at) 47)).alloc (.cells (vrow 2 (spAt x y)) 51)).heap[(w.heap.size)]? = some (.cells (vrow 266 s.at) 47)) := heap_past _ _ _ _ (by first | omega | (simp <;> omega)) (heap_at _ _ _ (by simp))
  have R : Hid (((w.alloc (.cells (vrow 266 s.at) 47)).alloc (.cells (vrow 2 (spAt x y)) 51)).heap[(w.heap.size + 1)]? = some (.cells (vrow 2 (spAt x y)) 51)) := heap_at _ _ _ (by simp)
  have E : Hid (Errs e ((w.alloc (.cells (vrow 266 s.at) 47)).alloc (.cells (vrow 2 (spAt x y)) 51))) := ((hE).alloc _).alloc _
  by_cases hk0 : k < 0
  · clear hk
    go_enter Tryd.func150, Tryd.ntmps150
    go_wp2_with (first
      | (refine wpList_ld1 90 _ rfl (by first | exact want_n rfl | exact want_g _ _ _ rfl rfl rfl) 1 0 rfl 1 (fun _ => errP e 1) _ rw_err E.out.v1 (by omega) ?_)
      | (refine wpList_ld1 90 _ rfl (by first | exact want_n rfl | exact want_g _ _ _ rfl rfl rfl) 0 0 rfl 1 (fun _ => errP e 2) _ rw_err E.out.v2 (by omega) ?_)
      | (refine wpList_ld1 90 _ rfl (by first | exact want_n rfl | exact want_g _ _ _ rfl rfl rfl) 2 0 rfl 1 (fun _ => errP e 3) _ rw_err E.out.v3 (by omega) ?_)
      | (refine wpList_ld1 90 _ rfl (by first | exact want_n rfl | exact want_g _ _ _ rfl rfl rfl) 3 0 rfl 1 (fun _ => errP e 4) _ rw_err E.out.v4 (by omega) ?_)
      | (refine wpList_ld1 90 _ rfl (by first | exact want_n rfl | exact want_g _ _ _ rfl rfl rfl) 4 0 rfl 1 (fun _ => errP e 5) _ rw_err E.out.v5 (by omega) ?_)
      | (go_at_call 123; (refine (checkCell_ok s x y hv hh e _ E.out).mono ?_; rintro e w1 ⟨rfl, hb⟩; replace P := Go.Lib.hid (row_next hb P.out); replace R := Go.Lib.hid (row_next hb R.out); replace hB := Go.Lib.hid (below_next hB.out hb); replace E := Go.Lib.hid (E.out.next hb); clear hb ))
      | (refine list_at 8 rfl ?_; intro W hW; rw [hW] at hB E P R; clear hW; have P' := Go.Lib.hid (cls_row' P.out); have R' := Go.Lib.hid (cls_row' R.out); (repeat (first | go_big_quiet_skip | (refine wpQuiet_loadmid 47 _ rfl (by first | exact want_n rfl | exact want_g _ _ _ rfl rfl rfl) (w.heap.size) _ rfl 266 266 s.at _ rw_sheet size_sheet P'.out (by omega) ?_; rw [sh_row]; simp only [Act.put, List.setIfInBounds_toArray, List.set_cons_succ, List.set_cons_zero]) | (refine wpQuiet_loadmid 51 _ rfl (by first | exact want_n rfl | exact want_g _ _ _ rfl rfl rfl) (w.heap.size + 1) _ rfl 2 2 (spAt x y) _ rw_spot size_spot R'.out (by omega) ?_; rw [sp_row]; simp only [Act.put, List.setIfInBounds_toArray, List.set_cons_succ, List.set_cons_zero]) | go_big_quiet_step ((go_at_call 123; exact cls_call _ (fun w hw => checkCell_ok s x y hv hh e w (E.out.next hw)))))); refine wpQuiet_nil ?_; intro Wn hb; replace P := Go.Lib.hid (row_next hb P.out); replace R := Go.Lib.hid (row_next hb R.out); replace hB := Go.Lib.hid (below_next hB.out hb); replace E := Go.Lib.hid (E.out.next hb); clear hb P' R'))
    go_ret
    exact ⟨rfl, hB.out⟩
  · have hk3 : 3 ≤ k := by simp [inkB] at hk; omega
    clear hk
    go_enter Tryd.func150, Tryd.ntmps150
    go_wp2_with (first
      | (refine wpList_ld1 90 _ rfl (by first | exact want_n rfl | exact want_g _ _ _ rfl rfl rfl) 1 0 rfl 1 (fun _ => errP e 1) _ rw_err E.out.v1 (by omega) ?_)
      | (refine wpList_ld1 90 _ rfl (by first | exact want_n rfl | exact want_g _ _ _ rfl rfl rfl) 0 0 rfl 1 (fun _ => errP e 2) _ rw_err E.out.v2 (by omega) ?_)
      | (refine wpList_ld1 90 _ rfl (by first | exact want_n rfl | exact want_g _ _ _ rfl rfl rfl) 2 0 rfl 1 (fun _ => errP e 3) _ rw_err E.out.v3 (by omega) ?_)
      | (refine wpList_ld1 90 _ rfl (by first | exact want_n rfl | exact want_g _ _ _ rfl rfl rfl) 3 0 rfl 1 (fun _ => errP e 4) _ rw_err E.out.v4 (by omega) ?_)
      | (refine wpList_ld1 90 _ rfl (by first | exact want_n rfl | exact want_g _ _ _ rfl rfl rfl) 4 0 rfl 1 (fun _ => errP e 5) _ rw_err E.out.v5 (by omega) ?_)
      | (go_at_call 123; (refine (checkCell_ok s x y hv hh e _ E.out).mono ?_; rintro e w1 ⟨rfl, hb⟩; replace P := Go.Lib.hid (row_next hb P.out); replace R := Go.Lib.hid (row_next hb R.out); replace hB := Go.Lib.hid (below_next hB.out hb); replace E := Go.Lib.hid (E.out.next hb); clear hb ))
      | (refine list_at 8 rfl ?_; intro W hW; rw [hW] at hB E P R; clear hW; have P' := Go.Lib.hid (cls_row' P.out); have R' := Go.Lib.hid (cls_row' R.out); (repeat (first | go_big_quiet_skip | (refine wpQuiet_loadmid 47 _ rfl (by first | exact want_n rfl | exact want_g _ _ _ rfl rfl rfl) (w.heap.size) _ rfl 266 266 s.at _ rw_sheet size_sheet P'.out (by omega) ?_; rw [sh_row]; simp only [Act.put, List.setIfInBounds_toArray, List.set_cons_succ, List.set_cons_zero]) | (refine wpQuiet_loadmid 51 _ rfl (by first | exact want_n rfl | exact want_g _ _ _ rfl rfl rfl) (w.heap.size + 1) _ rfl 2 2 (spAt x y) _ rw_spot size_spot R'.out (by omega) ?_; rw [sp_row]; simp only [Act.put, List.setIfInBounds_toArray, List.set_cons_succ, List.set_cons_zero]) | go_big_quiet_step ((go_at_call 123; exact cls_call _ (fun w hw => checkCell_ok s x y hv hh e w (E.out.next hw)))))); refine wpQuiet_nil ?_; intro Wn hb; replace P := Go.Lib.hid (row_next hb P.out); replace R := Go.Lib.hid (row_next hb R.out); replace hB := Go.Lib.hid (below_next hB.out hb); replace E := Go.Lib.hid (E.out.next hb); clear hb P' R'))
    go_ret
    exact ⟨rfl, hB.out⟩
set_option maxHeartbeats 400000 in
theorem checkInk_ok (s : Sh) (x y k : Int) (hv : okI s = true) (hh : hasB s x y = true) (hk : inkB k = true) (e : ErrE) (w : World) (hE : Errs e w) : Calls Tryd.prog 150 #[.agg s.row, .agg #[.int .i8 x, .int .i8 y], .int .i64 k] w fun o w' => o = .returned (.nilIface) ∧ Below w.heap.size w w' := by
  rw [sp_vrow]
  have hB : Hid (Below w.heap.size w ((w.alloc (.cells (vrow 266 s.at) 47)).alloc (.cells (vrow 2 (spAt x y)) 51))) := (((Below.refl w.heap.size w).alloc (by simp <;> omega) _).alloc (by simp <;> omega) _)
  have P : Hid (((w.alloc (.cells (vrow 266 s.at) 47)).alloc (.cells (vrow 2 (spAt x y)) 51)).heap[(w.heap.size)]? = some (.cells (vrow 266 s.at) 47)) := heap_past _ _ _ _ (by first | omega | (simp <;> omega)) (heap_at _ _ _ (by simp))
  have R : Hid (((w.alloc (.cells (vrow 266 s.at) 47)).alloc (.cells (vrow 2 (spAt x y)) 51)).heap[(w.heap.size + 1)]? = some (.cells (vrow 2 (spAt x y)) 51)) := heap_at _ _ _ (by simp)
  have E : Hid (Errs e ((w.alloc (.cells (vrow 266 s.at) 47)).alloc (.cells (vrow 2 (spAt x y)) 51))) := ((hE).alloc _).alloc _
  have hk1 : 0 ≤ k ∧ k ≤ 2 := by simpa [inkB] using hk
  obtain ⟨hk1, hk2⟩ := hk1
  have hk3 : k < 3 := by omega
  clear hk
  go_enter Tryd.func150, Tryd.ntmps150
  go_wp2_with (first
    | (refine wpList_ld1 90 _ rfl (by first | exact want_n rfl | exact want_g _ _ _ rfl rfl rfl) 1 0 rfl 1 (fun _ => errP e 1) _ rw_err E.out.v1 (by omega) ?_)
    | (refine wpList_ld1 90 _ rfl (by first | exact want_n rfl | exact want_g _ _ _ rfl rfl rfl) 0 0 rfl 1 (fun _ => errP e 2) _ rw_err E.out.v2 (by omega) ?_)
    | (refine wpList_ld1 90 _ rfl (by first | exact want_n rfl | exact want_g _ _ _ rfl rfl rfl) 2 0 rfl 1 (fun _ => errP e 3) _ rw_err E.out.v3 (by omega) ?_)
    | (refine wpList_ld1 90 _ rfl (by first | exact want_n rfl | exact want_g _ _ _ rfl rfl rfl) 3 0 rfl 1 (fun _ => errP e 4) _ rw_err E.out.v4 (by omega) ?_)
    | (refine wpList_ld1 90 _ rfl (by first | exact want_n rfl | exact want_g _ _ _ rfl rfl rfl) 4 0 rfl 1 (fun _ => errP e 5) _ rw_err E.out.v5 (by omega) ?_)
    | (go_at_call 123; (refine (checkCell_ok s x y hv hh e _ E.out).mono ?_; rintro e w1 ⟨rfl, hb⟩; replace P := Go.Lib.hid (row_next hb P.out); replace R := Go.Lib.hid (row_next hb R.out); replace hB := Go.Lib.hid (below_next hB.out hb); replace E := Go.Lib.hid (E.out.next hb); clear hb ))
    | (refine list_at 8 rfl ?_; intro W hW; rw [hW] at hB E P R; clear hW; have P' := Go.Lib.hid (cls_row' P.out); have R' := Go.Lib.hid (cls_row' R.out); (repeat (first | go_big_quiet_skip | (refine wpQuiet_loadmid 47 _ rfl (by first | exact want_n rfl | exact want_g _ _ _ rfl rfl rfl) (w.heap.size) _ rfl 266 266 s.at _ rw_sheet size_sheet P'.out (by omega) ?_; rw [sh_row]; simp only [Act.put, List.setIfInBounds_toArray, List.set_cons_succ, List.set_cons_zero]) | (refine wpQuiet_loadmid 51 _ rfl (by first | exact want_n rfl | exact want_g _ _ _ rfl rfl rfl) (w.heap.size + 1) _ rfl 2 2 (spAt x y) _ rw_spot size_spot R'.out (by omega) ?_; rw [sp_row]; simp only [Act.put, List.setIfInBounds_toArray, List.set_cons_succ, List.set_cons_zero]) | go_big_quiet_step ((go_at_call 123; exact cls_call _ (fun w hw => checkCell_ok s x y hv hh e w (E.out.next hw)))))); refine wpQuiet_nil ?_; intro Wn hb; replace P := Go.Lib.hid (row_next hb P.out); replace R := Go.Lib.hid (row_next hb R.out); replace hB := Go.Lib.hid (below_next hB.out hb); replace E := Go.Lib.hid (E.out.next hb); clear hb P' R'))
  go_ret
  exact ⟨rfl, hB.out⟩
end Go.Proofs.YthkkbkpfomhdeaaDoor
