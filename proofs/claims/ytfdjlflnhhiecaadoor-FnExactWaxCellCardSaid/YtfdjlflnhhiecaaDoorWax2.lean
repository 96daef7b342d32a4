import Derived.Test.YtfdjlflnhhiecaaDoorWax1
namespace Go.Proofs.YtfdjlflnhhiecaaDoor
open Go.RowKit
set_option maxRecDepth 100000
set_option linter.unusedVariables false
theorem built_zero : Tryd.prog.built 36 [] = some Sh.zero.row := by kernel_rfl
set_option maxHeartbeats 400000 in
theorem specWaxC_bad (s : Sh) (x y : Int) (on : Bool) (w : World) (hf : s.fit) (hx : -128 ≤ x ∧ x ≤ 127) (hy : -128 ≤ y ∧ y ≤ 127) (hv : okI s = false) : Calls Tryd.prog 26 #[.agg s.row, .agg #[.int .i8 x, .int .i8 y], .bool on] w fun e w' => e = .returned (.tuple #[.agg Sh.zero.row, .int .i64 1]) ∧ Below w.heap.size w w' := by
  have zz := zero_sheet
  rw [sp_vrow]
  have hB : Hid (Below w.heap.size w (((w.alloc (.cells (vrow 266 s.at) 36)).alloc (.cells (vrow 2 (spAt x y)) 38)).alloc (.cells (vrow 266 Sh.zero.at) 36))) := ((((Below.refl w.heap.size w).alloc (by simp <;> omega) _).alloc (by simp <;> omega) _).alloc (by simp <;> omega) _)
  have P : Hid ((((w.alloc (.cells (vrow 266 s.at) 36)).alloc (.cells (vrow 2 (spAt x y)) 38)).alloc (.cells (vrow 266 Sh.zero.at) 36)).heap[(w.heap.size)]? = some (.cells (vrow 266 s.at) 36)) := heap_past _ _ _ _ (by first | omega | (simp <;> omega)) (heap_past _ _ _ _ (by first | omega | (simp <;> omega)) (heap_at _ _ _ (by simp)))
  have R : Hid ((((w.alloc (.cells (vrow 266 s.at) 36)).alloc (.cells (vrow 2 (spAt x y)) 38)).alloc (.cells (vrow 266 Sh.zero.at) 36)).heap[(w.heap.size + 1)]? = some (.cells (vrow 2 (spAt x y)) 38)) := heap_past _ _ _ _ (by first | omega | (simp <;> omega)) (heap_at _ _ _ (by simp))
  have Z : Hid ((((w.alloc (.cells (vrow 266 s.at) 36)).alloc (.cells (vrow 2 (spAt x y)) 38)).alloc (.cells (vrow 266 Sh.zero.at) 36)).heap[(w.heap.size + 1 + 1)]? = some (.cells (vrow 266 Sh.zero.at) 36)) := heap_at _ _ _ (by simp)
  go_enter Tryd.func26, Tryd.ntmps26
  go_wp2_with (first
    | (refine wpList_built rfl 36 [] rfl [] (by rfl) _ built_zero ?_)
    | (refine wpList_storeall rfl 36 (.tmp 6) (.tmp 13) rfl (w.heap.size + 2) rfl 266 Sh.zero.at Sh.zero.at rfl 36 size_sheet Z.out (fun i _ => Sh.one _ i) ?_; replace Z := Go.Lib.hid (row_set Z.out (vrow 266 Sh.zero.at)); replace hB := Go.Lib.hid (Below_setRow hB.out (show w.heap.size ≤ w.heap.size + 2 by omega) (vrow 266 Sh.zero.at)))
    | (go_at_call 42; (refine (asked_bad s _ x y true _ P.out hf hx hy hv).mono ?_; rintro e w1 ⟨rfl, hb⟩; replace P := Go.Lib.hid (row_next hb P.out); replace R := Go.Lib.hid (row_next hb R.out); replace Z := Go.Lib.hid (row_next hb Z.out); replace hB := Go.Lib.hid (below_next hB.out hb); clear hb ))
    | (refine list_at 9 rfl ?_; intro W hW; rw [hW] at hB P R Z; clear hW; have P' := Go.Lib.hid (cls_row' P.out); have R' := Go.Lib.hid (cls_row' R.out); have Z' := Go.Lib.hid (cls_row' Z.out); (repeat (first | go_big_quiet_skip | (refine wpQuiet_loadmid 38 _ rfl (by first | exact want_n rfl | exact want_g _ _ _ rfl rfl rfl) (w.heap.size + 1) _ rfl 2 2 (spAt x y) _ rw_spot size_spot R'.out (by omega) ?_; rw [sp_row]; simp only [Act.put, List.setIfInBounds_toArray, List.set_cons_succ, List.set_cons_zero]) | go_big_quiet_step ((go_at_call 42; exact cls_call _ (fun w hw => asked_bad s _ x y true w (row_next hw P.out) hf hx hy hv))))); refine wpQuiet_nil ?_; intro Wn hb; replace P := Go.Lib.hid (row_next hb P.out); replace R := Go.Lib.hid (row_next hb R.out); replace Z := Go.Lib.hid (row_next hb Z.out); replace hB := Go.Lib.hid (below_next hB.out hb); clear hb P' R' Z'))
  exact ret_row2 Tryd.results26 (w.heap.size + 2) 266 Sh.zero.at 36 _ Tryd.underlying36 rfl size_sheet (.int .i64 1) rfl rfl rfl Z.out ⟨rfl, hB.out⟩
set_option maxHeartbeats 400000 in
theorem implWaxC_bad (s : Sh) (x y : Int) (on : Bool) (e : ErrE) (w : World) (hE : Errs e w) (hv : okI s = false) (hf : s.fit := by assumption) : Calls Tryd.prog 27 #[.agg s.row, .agg #[.int .i8 x, .int .i8 y], .bool on] w fun o w' => o = .returned (.tuple #[.agg Sh.zero.row, .int .i64 1]) ∧ Below w.heap.size w w' := by
  have zz := zero_sheet
  rw [sp_vrow]
  have hB : Hid (Below w.heap.size w (((w.alloc (.cells (vrow 266 s.at) 36)).alloc (.cells (vrow 2 (spAt x y)) 38)).alloc (.cells (vrow 266 Sh.zero.at) 36))) := ((((Below.refl w.heap.size w).alloc (by simp <;> omega) _).alloc (by simp <;> omega) _).alloc (by simp <;> omega) _)
  have P : Hid ((((w.alloc (.cells (vrow 266 s.at) 36)).alloc (.cells (vrow 2 (spAt x y)) 38)).alloc (.cells (vrow 266 Sh.zero.at) 36)).heap[(w.heap.size)]? = some (.cells (vrow 266 s.at) 36)) := heap_past _ _ _ _ (by first | omega | (simp <;> omega)) (heap_past _ _ _ _ (by first | omega | (simp <;> omega)) (heap_at _ _ _ (by simp)))
  have R : Hid ((((w.alloc (.cells (vrow 266 s.at) 36)).alloc (.cells (vrow 2 (spAt x y)) 38)).alloc (.cells (vrow 266 Sh.zero.at) 36)).heap[(w.heap.size + 1)]? = some (.cells (vrow 2 (spAt x y)) 38)) := heap_past _ _ _ _ (by first | omega | (simp <;> omega)) (heap_at _ _ _ (by simp))
  have Z : Hid ((((w.alloc (.cells (vrow 266 s.at) 36)).alloc (.cells (vrow 2 (spAt x y)) 38)).alloc (.cells (vrow 266 Sh.zero.at) 36)).heap[(w.heap.size + 1 + 1)]? = some (.cells (vrow 266 Sh.zero.at) 36)) := heap_at _ _ _ (by simp)
  have E : Hid (Errs e (((w.alloc (.cells (vrow 266 s.at) 36)).alloc (.cells (vrow 2 (spAt x y)) 38)).alloc (.cells (vrow 266 Sh.zero.at) 36))) := (((hE).alloc _).alloc _).alloc _
  go_enter Tryd.func27, Tryd.ntmps27
  go_wp2_with (first
    | (refine wpList_built rfl 36 [] rfl [] (by rfl) _ built_zero ?_)
    | (refine wpList_storeall rfl 36 (.tmp 6) (.tmp 14) rfl (w.heap.size + 2) rfl 266 Sh.zero.at Sh.zero.at rfl 36 size_sheet Z.out (fun i _ => Sh.one _ i) ?_; replace Z := Go.Lib.hid (row_set Z.out (vrow 266 Sh.zero.at)); replace hB := Go.Lib.hid (Below_setRow hB.out (show w.heap.size ≤ w.heap.size + 2 by omega) (vrow 266 Sh.zero.at)))
    | (go_at_call 58; (refine (checkWax_bad s x y hv e _ E.out).mono ?_; rintro e w1 ⟨rfl, hb⟩; replace P := Go.Lib.hid (row_next hb P.out); replace R := Go.Lib.hid (row_next hb R.out); replace Z := Go.Lib.hid (row_next hb Z.out); replace hB := Go.Lib.hid (below_next hB.out hb); replace E := Go.Lib.hid (E.out.next hb); clear hb ))
    | (go_at_call 47; (refine (codeOf_1 e _ E.out).mono ?_; rintro e w1 ⟨rfl, hb⟩; replace P := Go.Lib.hid (row_next hb P.out); replace R := Go.Lib.hid (row_next hb R.out); replace Z := Go.Lib.hid (row_next hb Z.out); replace hB := Go.Lib.hid (below_next hB.out hb); replace E := Go.Lib.hid (E.out.next hb); clear hb ))
    | (refine list_at 9 rfl ?_; intro W hW; rw [hW] at hB E P R Z; clear hW; have P' := Go.Lib.hid (cls_row' P.out); have R' := Go.Lib.hid (cls_row' R.out); have Z' := Go.Lib.hid (cls_row' Z.out); (repeat (first | go_big_quiet_skip | (refine wpQuiet_loadmid 36 _ rfl (by first | exact want_n rfl | exact want_g _ _ _ rfl rfl rfl) (w.heap.size) _ rfl 266 266 s.at _ rw_sheet size_sheet P'.out (by omega) ?_; rw [sh_row]; simp only [Act.put, List.setIfInBounds_toArray, List.set_cons_succ, List.set_cons_zero]) | (refine wpQuiet_loadmid 38 _ rfl (by first | exact want_n rfl | exact want_g _ _ _ rfl rfl rfl) (w.heap.size + 1) _ rfl 2 2 (spAt x y) _ rw_spot size_spot R'.out (by omega) ?_; rw [sp_row]; simp only [Act.put, List.setIfInBounds_toArray, List.set_cons_succ, List.set_cons_zero]) | go_big_quiet_step (first | (go_at_call 58; exact cls_call _ (fun w hw => checkWax_bad s x y hv e w (E.out.next hw))) | (go_at_call 47; exact cls_call _ (fun w hw => codeOf_1 e w (E.out.next hw)))))); refine wpQuiet_nil ?_; intro Wn hb; replace P := Go.Lib.hid (row_next hb P.out); replace R := Go.Lib.hid (row_next hb R.out); replace Z := Go.Lib.hid (row_next hb Z.out); replace hB := Go.Lib.hid (below_next hB.out hb); replace E := Go.Lib.hid (E.out.next hb); clear hb P' R' Z'))
  exact ret_row2 Tryd.results27 (w.heap.size + 2) 266 Sh.zero.at 36 _ Tryd.underlying36 rfl size_sheet (.int .i64 1) rfl rfl rfl Z.out ⟨rfl, hB.out⟩
set_option maxHeartbeats 400000 in
theorem specWaxC_no (s : Sh) (x y : Int) (on : Bool) (w : World) (hf : s.fit) (hx : -128 ≤ x ∧ x ≤ 127) (hy : -128 ≤ y ∧ y ≤ 127) (hv : okI s = true) (hh : hasB s x y = false) : Calls Tryd.prog 26 #[.agg s.row, .agg #[.int .i8 x, .int .i8 y], .bool on] w fun e w' => e = .returned (.tuple #[.agg Sh.zero.row, .int .i64 2]) ∧ Below w.heap.size w w' := by
  have zz := zero_sheet
  rw [sp_vrow]
  have hB : Hid (Below w.heap.size w (((w.alloc (.cells (vrow 266 s.at) 36)).alloc (.cells (vrow 2 (spAt x y)) 38)).alloc (.cells (vrow 266 Sh.zero.at) 36))) := ((((Below.refl w.heap.size w).alloc (by simp <;> omega) _).alloc (by simp <;> omega) _).alloc (by simp <;> omega) _)
  have P : Hid ((((w.alloc (.cells (vrow 266 s.at) 36)).alloc (.cells (vrow 2 (spAt x y)) 38)).alloc (.cells (vrow 266 Sh.zero.at) 36)).heap[(w.heap.size)]? = some (.cells (vrow 266 s.at) 36)) := heap_past _ _ _ _ (by first | omega | (simp <;> omega)) (heap_past _ _ _ _ (by first | omega | (simp <;> omega)) (heap_at _ _ _ (by simp)))
  have R : Hid ((((w.alloc (.cells (vrow 266 s.at) 36)).alloc (.cells (vrow 2 (spAt x y)) 38)).alloc (.cells (vrow 266 Sh.zero.at) 36)).heap[(w.heap.size + 1)]? = some (.cells (vrow 2 (spAt x y)) 38)) := heap_past _ _ _ _ (by first | omega | (simp <;> omega)) (heap_at _ _ _ (by simp))
  have Z : Hid ((((w.alloc (.cells (vrow 266 s.at) 36)).alloc (.cells (vrow 2 (spAt x y)) 38)).alloc (.cells (vrow 266 Sh.zero.at) 36)).heap[(w.heap.size + 1 + 1)]? = some (.cells (vrow 266 Sh.zero.at) 36)) := heap_at _ _ _ (by simp)
  go_enter Tryd.func26, Tryd.ntmps26
  go_wp2_with (first
    | (refine wpList_built rfl 36 [] rfl [] (by rfl) _ built_zero ?_)
    | (refine wpList_storeall rfl 36 (.tmp 6) (.tmp 13) rfl (w.heap.size + 2) rfl 266 Sh.zero.at Sh.zero.at rfl 36 size_sheet Z.out (fun i _ => Sh.one _ i) ?_; replace Z := Go.Lib.hid (row_set Z.out (vrow 266 Sh.zero.at)); replace hB := Go.Lib.hid (Below_setRow hB.out (show w.heap.size ≤ w.heap.size + 2 by omega) (vrow 266 Sh.zero.at)))
    | (go_at_call 42; (refine (asked_no s _ x y true _ P.out hf hx hy hv hh).mono ?_; rintro e w1 ⟨rfl, hb⟩; replace P := Go.Lib.hid (row_next hb P.out); replace R := Go.Lib.hid (row_next hb R.out); replace Z := Go.Lib.hid (row_next hb Z.out); replace hB := Go.Lib.hid (below_next hB.out hb); clear hb ))
    | (refine list_at 9 rfl ?_; intro W hW; rw [hW] at hB P R Z; clear hW; have P' := Go.Lib.hid (cls_row' P.out); have R' := Go.Lib.hid (cls_row' R.out); have Z' := Go.Lib.hid (cls_row' Z.out); (repeat (first | go_big_quiet_skip | (refine wpQuiet_loadmid 38 _ rfl (by first | exact want_n rfl | exact want_g _ _ _ rfl rfl rfl) (w.heap.size + 1) _ rfl 2 2 (spAt x y) _ rw_spot size_spot R'.out (by omega) ?_; rw [sp_row]; simp only [Act.put, List.setIfInBounds_toArray, List.set_cons_succ, List.set_cons_zero]) | go_big_quiet_step ((go_at_call 42; exact cls_call _ (fun w hw => asked_no s _ x y true w (row_next hw P.out) hf hx hy hv hh))))); refine wpQuiet_nil ?_; intro Wn hb; replace P := Go.Lib.hid (row_next hb P.out); replace R := Go.Lib.hid (row_next hb R.out); replace Z := Go.Lib.hid (row_next hb Z.out); replace hB := Go.Lib.hid (below_next hB.out hb); clear hb P' R' Z'))
  exact ret_row2 Tryd.results26 (w.heap.size + 2) 266 Sh.zero.at 36 _ Tryd.underlying36 rfl size_sheet (.int .i64 2) rfl rfl rfl Z.out ⟨rfl, hB.out⟩
set_option maxHeartbeats 400000 in
theorem implWaxC_no (s : Sh) (x y : Int) (on : Bool) (e : ErrE) (w : World) (hE : Errs e w) (hv : okI s = true) (hh : hasB s x y = false) : Calls Tryd.prog 27 #[.agg s.row, .agg #[.int .i8 x, .int .i8 y], .bool on] w fun o w' => o = .returned (.tuple #[.agg Sh.zero.row, .int .i64 2]) ∧ Below w.heap.size w w' := by
  have zz := zero_sheet
  rw [sp_vrow]
  have hB : Hid (Below w.heap.size w (((w.alloc (.cells (vrow 266 s.at) 36)).alloc (.cells (vrow 2 (spAt x y)) 38)).alloc (.cells (vrow 266 Sh.zero.at) 36))) := ((((Below.refl w.heap.size w).alloc (by simp <;> omega) _).alloc (by simp <;> omega) _).alloc (by simp <;> omega) _)
  have P : Hid ((((w.alloc (.cells (vrow 266 s.at) 36)).alloc (.cells (vrow 2 (spAt x y)) 38)).alloc (.cells (vrow 266 Sh.zero.at) 36)).heap[(w.heap.size)]? = some (.cells (vrow 266 s.at) 36)) := heap_past _ _ _ _ (by first | omega | (simp <;> omega)) (heap_past _ _ _ _ (by first | omega | (simp <;> omega)) (heap_at _ _ _ (by simp)))
  have R : Hid ((((w.alloc (.cells (vrow 266 s.at) 36)).alloc (.cells (vrow 2 (spAt x y)) 38)).alloc (.cells (vrow 266 Sh.zero.at) 36)).heap[(w.heap.size + 1)]? = some (.cells (vrow 2 (spAt x y)) 38)) := heap_past _ _ _ _ (by first | omega | (simp <;> omega)) (heap_at _ _ _ (by simp))
  have Z : Hid ((((w.alloc (.cells (vrow 266 s.at) 36)).alloc (.cells (vrow 2 (spAt x y)) 38)).alloc (.cells (vrow 266 Sh.zero.at) 36)).heap[(w.heap.size + 1 + 1)]? = some (.cells (vrow 266 Sh.zero.at) 36)) := heap_at _ _ _ (by simp)
  have E : Hid (Errs e (((w.alloc (.cells (vrow 266 s.at) 36)).alloc (.cells (vrow 2 (spAt x y)) 38)).alloc (.cells (vrow 266 Sh.zero.at) 36))) := (((hE).alloc _).alloc _).alloc _
  go_enter Tryd.func27, Tryd.ntmps27
  go_wp2_with (first
    | (refine wpList_built rfl 36 [] rfl [] (by rfl) _ built_zero ?_)
    | (refine wpList_storeall rfl 36 (.tmp 6) (.tmp 14) rfl (w.heap.size + 2) rfl 266 Sh.zero.at Sh.zero.at rfl 36 size_sheet Z.out (fun i _ => Sh.one _ i) ?_; replace Z := Go.Lib.hid (row_set Z.out (vrow 266 Sh.zero.at)); replace hB := Go.Lib.hid (Below_setRow hB.out (show w.heap.size ≤ w.heap.size + 2 by omega) (vrow 266 Sh.zero.at)))
    | (go_at_call 58; (refine (checkWax_no s x y hv hh e _ E.out).mono ?_; rintro e w1 ⟨rfl, hb⟩; replace P := Go.Lib.hid (row_next hb P.out); replace R := Go.Lib.hid (row_next hb R.out); replace Z := Go.Lib.hid (row_next hb Z.out); replace hB := Go.Lib.hid (below_next hB.out hb); replace E := Go.Lib.hid (E.out.next hb); clear hb ))
    | (go_at_call 47; (refine (codeOf_2 e _ E.out).mono ?_; rintro e w1 ⟨rfl, hb⟩; replace P := Go.Lib.hid (row_next hb P.out); replace R := Go.Lib.hid (row_next hb R.out); replace Z := Go.Lib.hid (row_next hb Z.out); replace hB := Go.Lib.hid (below_next hB.out hb); replace E := Go.Lib.hid (E.out.next hb); clear hb ))
    | (refine list_at 9 rfl ?_; intro W hW; rw [hW] at hB E P R Z; clear hW; have P' := Go.Lib.hid (cls_row' P.out); have R' := Go.Lib.hid (cls_row' R.out); have Z' := Go.Lib.hid (cls_row' Z.out); (repeat (first | go_big_quiet_skip | (refine wpQuiet_loadmid 36 _ rfl (by first | exact want_n rfl | exact want_g _ _ _ rfl rfl rfl) (w.heap.size) _ rfl 266 266 s.at _ rw_sheet size_sheet P'.out (by omega) ?_; rw [sh_row]; simp only [Act.put, List.setIfInBounds_toArray, List.set_cons_succ, List.set_cons_zero]) | (refine wpQuiet_loadmid 38 _ rfl (by first | exact want_n rfl | exact want_g _ _ _ rfl rfl rfl) (w.heap.size + 1) _ rfl 2 2 (spAt x y) _ rw_spot size_spot R'.out (by omega) ?_; rw [sp_row]; simp only [Act.put, List.setIfInBounds_toArray, List.set_cons_succ, List.set_cons_zero]) | go_big_quiet_step (first | (go_at_call 58; exact cls_call _ (fun w hw => checkWax_no s x y hv hh e w (E.out.next hw))) | (go_at_call 47; exact cls_call _ (fun w hw => codeOf_2 e w (E.out.next hw)))))); refine wpQuiet_nil ?_; intro Wn hb; replace P := Go.Lib.hid (row_next hb P.out); replace R := Go.Lib.hid (row_next hb R.out); replace Z := Go.Lib.hid (row_next hb Z.out); replace hB := Go.Lib.hid (below_next hB.out hb); replace E := Go.Lib.hid (E.out.next hb); clear hb P' R' Z'))
  exact ret_row2 Tryd.results27 (w.heap.size + 2) 266 Sh.zero.at 36 _ Tryd.underlying36 rfl size_sheet (.int .i64 2) rfl rfl rfl Z.out ⟨rfl, hB.out⟩
set_option maxHeartbeats 1000000 in
theorem specWaxC_wetA (s : Sh) (x y : Nat) (on : Bool) (w : World) (hf : s.fit) (hx : x < 8) (hy : y < 8) (hv : okI s = true) (hh : hasB s x y = true) (hw : 0 < s.wet (8 * y + x)) : Calls Tryd.prog 26 #[.agg s.row, .agg #[.int .i8 x, .int .i8 y], .bool on] w fun e w' => e = .returned (.tuple #[.agg Sh.zero.row, .int .i64 4]) ∧ Below w.heap.size w w' := by
  have t1 : decide (0 < s.wet (8 * y + x)) = true := by simpa using hw
  have hwb := hf.wet (8 * y + x) (by omega)
  have hxI : (x : Int) < 8 := by omega
  have hyI : (y : Int) < 8 := by omega
  have zz := zero_sheet
  rw [sp_vrow]
  have hB : Hid (Below w.heap.size w (((w.alloc (.cells (vrow 266 s.at) 36)).alloc (.cells (vrow 2 (spAt x y)) 38)).alloc (.cells (vrow 266 Sh.zero.at) 36))) := ((((Below.refl w.heap.size w).alloc (by simp <;> omega) _).alloc (by simp <;> omega) _).alloc (by simp <;> omega) _)
  have P : Hid ((((w.alloc (.cells (vrow 266 s.at) 36)).alloc (.cells (vrow 2 (spAt x y)) 38)).alloc (.cells (vrow 266 Sh.zero.at) 36)).heap[(w.heap.size)]? = some (.cells (vrow 266 s.at) 36)) := heap_past _ _ _ _ (by first | omega | (simp <;> omega)) (heap_past _ _ _ _ (by first | omega | (simp <;> omega)) (heap_at _ _ _ (by simp)))
  have R : Hid ((((w.alloc (.cells (vrow 266 s.at) 36)).alloc (.cells (vrow 2 (spAt x y)) 38)).alloc (.cells (vrow 266 Sh.zero.at) 36)).heap[(w.heap.size + 1)]? = some (.cells (vrow 2 (spAt x y)) 38)) := heap_past _ _ _ _ (by first | omega | (simp <;> omega)) (heap_at _ _ _ (by simp))
  have Z : Hid ((((w.alloc (.cells (vrow 266 s.at) 36)).alloc (.cells (vrow 2 (spAt x y)) 38)).alloc (.cells (vrow 266 Sh.zero.at) 36)).heap[(w.heap.size + 1 + 1)]? = some (.cells (vrow 266 Sh.zero.at) 36)) := heap_at _ _ _ (by simp)
  go_enter Tryd.func26, Tryd.ntmps26
  go_wp2_with (first
    | (refine wpList_built rfl 36 [] rfl [] (by rfl) _ built_zero ?_)
    | (refine wpList_storeall rfl 36 (.tmp 6) (.tmp 13) rfl (w.heap.size + 2) rfl 266 Sh.zero.at Sh.zero.at rfl 36 size_sheet Z.out (fun i _ => Sh.one _ i) ?_; replace Z := Go.Lib.hid (row_set Z.out (vrow 266 Sh.zero.at)); replace hB := Go.Lib.hid (Below_setRow hB.out (show w.heap.size ≤ w.heap.size + 2 by omega) (vrow 266 Sh.zero.at)))
    | (go_at_call 42; (refine (asked_ok s _ x y _ P.out hf (by omega) (by omega) hv hh).mono ?_; rintro e w1 ⟨rfl, hb⟩; replace P := Go.Lib.hid (row_next hb P.out); replace R := Go.Lib.hid (row_next hb R.out); replace Z := Go.Lib.hid (row_next hb Z.out); replace hB := Go.Lib.hid (below_next hB.out hb); clear hb ))
    | (go_at_call 50; (refine (ldark_any s _ x y _ P.out hx hy hf).mono ?_; rintro e w1 ⟨rfl, hb⟩; replace P := Go.Lib.hid (row_next hb P.out); replace R := Go.Lib.hid (row_next hb R.out); replace Z := Go.Lib.hid (row_next hb Z.out); replace hB := Go.Lib.hid (below_next hB.out hb); clear hb ))
    | (refine list_at 9 rfl ?_; intro W hW; rw [hW] at hB P R Z; clear hW; have P' := Go.Lib.hid (cls_row' P.out); have R' := Go.Lib.hid (cls_row' R.out); have Z' := Go.Lib.hid (cls_row' Z.out); (repeat (first | go_big_quiet_skip | (refine wpQuiet_load1 23 _ rfl (by first | exact want_n rfl | exact want_g _ _ _ rfl rfl rfl) (w.heap.size) _ rfl 266 s.at _ rw_i16 P'.out (by omega) ?_; (first | rw [Sh.at_0] | rw [Sh.at_1] | rw [Sh.at_wax1 _ _ (by omega)] | rw [Sh.at_wet1 _ _ (8 * y + x) (by omega) (by omega)] | rw [Sh.at_dye1 _ _ (24 * y + 3 * x) (by omega) (by omega)]); simp only [Act.put, List.setIfInBounds_toArray, List.set_cons_succ, List.set_cons_zero]) | (refine wpQuiet_load1 22 _ rfl (by first | exact want_n rfl | exact want_g _ _ _ rfl rfl rfl) (w.heap.size + 1) _ rfl 2 (spAt x y) _ rw_i8 R'.out (by omega) ?_; (first | rw [spAt_0] | rw [spAt_1]); simp only [Act.put, List.setIfInBounds_toArray, List.set_cons_succ, List.set_cons_zero]) | (refine wpQuiet_loadmid 38 _ rfl (by first | exact want_n rfl | exact want_g _ _ _ rfl rfl rfl) (w.heap.size + 1) _ rfl 2 2 (spAt x y) _ rw_spot size_spot R'.out (by omega) ?_; rw [sp_row]; simp only [Act.put, List.setIfInBounds_toArray, List.set_cons_succ, List.set_cons_zero]) | go_big_quiet_step (first | (go_at_call 42; exact cls_call _ (fun w hw => asked_ok s _ x y w (row_next hw P.out) hf (by omega) (by omega) hv hh)) | (go_at_call 50; exact cls_call _ (fun w hw => ldark_any s _ x y w (row_next hw P.out) hx hy hf))))); refine wpQuiet_nil ?_; intro Wn hb; replace P := Go.Lib.hid (row_next hb P.out); replace R := Go.Lib.hid (row_next hb R.out); replace Z := Go.Lib.hid (row_next hb Z.out); replace hB := Go.Lib.hid (below_next hB.out hb); clear hb P' R' Z'))
  (refine region_at (by kernel_rfl) (by kernel_rfl) ?_; intro W hW; rw [hW] at hB P R Z; clear hW; have P' := Go.Lib.hid (cls_row' P.out); have R' := Go.Lib.hid (cls_row' R.out); have Z' := Go.Lib.hid (cls_row' Z.out); (repeat (first | go_big_quiet_skip | (refine wpQuiet_load1 23 _ rfl (by first | exact want_n rfl | exact want_g _ _ _ rfl rfl rfl) (w.heap.size) _ rfl 266 s.at _ rw_i16 P'.out (by omega) ?_; (first | rw [Sh.at_0] | rw [Sh.at_1] | rw [Sh.at_wax1 _ _ (by omega)] | rw [Sh.at_wet1 _ _ (8 * y + x) (by omega) (by omega)] | rw [Sh.at_dye1 _ _ (24 * y + 3 * x) (by omega) (by omega)]); simp only [Act.put, List.setIfInBounds_toArray, List.set_cons_succ, List.set_cons_zero]) | (refine wpQuiet_load1 22 _ rfl (by first | exact want_n rfl | exact want_g _ _ _ rfl rfl rfl) (w.heap.size + 1) _ rfl 2 (spAt x y) _ rw_i8 R'.out (by omega) ?_; (first | rw [spAt_0] | rw [spAt_1]); simp only [Act.put, List.setIfInBounds_toArray, List.set_cons_succ, List.set_cons_zero]) | (refine wpQuiet_loadmid 38 _ rfl (by first | exact want_n rfl | exact want_g _ _ _ rfl rfl rfl) (w.heap.size + 1) _ rfl 2 2 (spAt x y) _ rw_spot size_spot R'.out (by omega) ?_; rw [sp_row]; simp only [Act.put, List.setIfInBounds_toArray, List.set_cons_succ, List.set_cons_zero]) | go_big_quiet_step (first | (go_at_call 42; exact cls_call _ (fun w hw => asked_ok s _ x y w (row_next hw P.out) hf (by omega) (by omega) hv hh)) | (go_at_call 50; exact cls_call _ (fun w hw => ldark_any s _ x y w (row_next hw P.out) hx hy hf))))); refine wpQuiet_nil ?_; intro Wn hb; replace P := Go.Lib.hid (row_next hb P.out); replace R := Go.Lib.hid (row_next hb R.out); replace Z := Go.Lib.hid (row_next hb Z.out); replace hB := Go.Lib.hid (below_next hB.out hb); clear hb P' R' Z')
  go_wp2_with (first
    | (refine wpList_built rfl 36 [] rfl [] (by rfl) _ built_zero ?_)
    | (refine wpList_storeall rfl 36 (.tmp 6) (.tmp 29) rfl (w.heap.size + 2) rfl 266 Sh.zero.at Sh.zero.at rfl 36 size_sheet Z.out (fun i _ => Sh.one _ i) ?_; replace Z := Go.Lib.hid (row_set Z.out (vrow 266 Sh.zero.at)); replace hB := Go.Lib.hid (Below_setRow hB.out (show w.heap.size ≤ w.heap.size + 2 by omega) (vrow 266 Sh.zero.at))))
  exact ret_row2 Tryd.results26 (w.heap.size + 2) 266 Sh.zero.at 36 _ Tryd.underlying36 rfl size_sheet (.int .i64 4) rfl rfl rfl Z.out ⟨rfl, hB.out⟩
set_option maxHeartbeats 1000000 in
theorem specWaxC_wetB (s : Sh) (x y : Nat) (on : Bool) (w : World) (hf : s.fit) (hx : x < 8) (hy : y < 8) (hv : okI s = true) (hh : hasB s x y = true) (hw : s.wet (8 * y + x) = 0) (hd : 0 < darkB s x y) : Calls Tryd.prog 26 #[.agg s.row, .agg #[.int .i8 x, .int .i8 y], .bool on] w fun e w' => e = .returned (.tuple #[.agg Sh.zero.row, .int .i64 4]) ∧ Below w.heap.size w w' := by
  have t1 : decide (0 < s.wet (8 * y + x)) = false := by simp; omega
  have t2 : decide (0 < darkB s x y) = true := by simpa using hd
  clear hw
  have hwb := hf.wet (8 * y + x) (by omega)
  have hxI : (x : Int) < 8 := by omega
  have hyI : (y : Int) < 8 := by omega
  have zz := zero_sheet
  rw [sp_vrow]
  have hB : Hid (Below w.heap.size w (((w.alloc (.cells (vrow 266 s.at) 36)).alloc (.cells (vrow 2 (spAt x y)) 38)).alloc (.cells (vrow 266 Sh.zero.at) 36))) := ((((Below.refl w.heap.size w).alloc (by simp <;> omega) _).alloc (by simp <;> omega) _).alloc (by simp <;> omega) _)
  have P : Hid ((((w.alloc (.cells (vrow 266 s.at) 36)).alloc (.cells (vrow 2 (spAt x y)) 38)).alloc (.cells (vrow 266 Sh.zero.at) 36)).heap[(w.heap.size)]? = some (.cells (vrow 266 s.at) 36)) := heap_past _ _ _ _ (by first | omega | (simp <;> omega)) (heap_past _ _ _ _ (by first | omega | (simp <;> omega)) (heap_at _ _ _ (by simp)))
  have R : Hid ((((w.alloc (.cells (vrow 266 s.at) 36)).alloc (.cells (vrow 2 (spAt x y)) 38)).alloc (.cells (vrow 266 Sh.zero.at) 36)).heap[(w.heap.size + 1)]? = some (.cells (vrow 2 (spAt x y)) 38)) := heap_past _ _ _ _ (by first | omega | (simp <;> omega)) (heap_at _ _ _ (by simp))
  have Z : Hid ((((w.alloc (.cells (vrow 266 s.at) 36)).alloc (.cells (vrow 2 (spAt x y)) 38)).alloc (.cells (vrow 266 Sh.zero.at) 36)).heap[(w.heap.size + 1 + 1)]? = some (.cells (vrow 266 Sh.zero.at) 36)) := heap_at _ _ _ (by simp)
  go_enter Tryd.func26, Tryd.ntmps26
  go_wp2_with (first
    | (refine wpList_built rfl 36 [] rfl [] (by rfl) _ built_zero ?_)
    | (refine wpList_storeall rfl 36 (.tmp 6) (.tmp 13) rfl (w.heap.size + 2) rfl 266 Sh.zero.at Sh.zero.at rfl 36 size_sheet Z.out (fun i _ => Sh.one _ i) ?_; replace Z := Go.Lib.hid (row_set Z.out (vrow 266 Sh.zero.at)); replace hB := Go.Lib.hid (Below_setRow hB.out (show w.heap.size ≤ w.heap.size + 2 by omega) (vrow 266 Sh.zero.at)))
    | (go_at_call 42; (refine (asked_ok s _ x y _ P.out hf (by omega) (by omega) hv hh).mono ?_; rintro e w1 ⟨rfl, hb⟩; replace P := Go.Lib.hid (row_next hb P.out); replace R := Go.Lib.hid (row_next hb R.out); replace Z := Go.Lib.hid (row_next hb Z.out); replace hB := Go.Lib.hid (below_next hB.out hb); clear hb ))
    | (go_at_call 50; (refine (ldark_any s _ x y _ P.out hx hy hf).mono ?_; rintro e w1 ⟨rfl, hb⟩; replace P := Go.Lib.hid (row_next hb P.out); replace R := Go.Lib.hid (row_next hb R.out); replace Z := Go.Lib.hid (row_next hb Z.out); replace hB := Go.Lib.hid (below_next hB.out hb); clear hb ))
    | (refine list_at 9 rfl ?_; intro W hW; rw [hW] at hB P R Z; clear hW; have P' := Go.Lib.hid (cls_row' P.out); have R' := Go.Lib.hid (cls_row' R.out); have Z' := Go.Lib.hid (cls_row' Z.out); (repeat (first | go_big_quiet_skip | (refine wpQuiet_load1 23 _ rfl (by first | exact want_n rfl | exact want_g _ _ _ rfl rfl rfl) (w.heap.size) _ rfl 266 s.at _ rw_i16 P'.out (by omega) ?_; (first | rw [Sh.at_0] | rw [Sh.at_1] | rw [Sh.at_wax1 _ _ (by omega)] | rw [Sh.at_wet1 _ _ (8 * y + x) (by omega) (by omega)] | rw [Sh.at_dye1 _ _ (24 * y + 3 * x) (by omega) (by omega)]); simp only [Act.put, List.setIfInBounds_toArray, List.set_cons_succ, List.set_cons_zero]) | (refine wpQuiet_load1 22 _ rfl (by first | exact want_n rfl | exact want_g _ _ _ rfl rfl rfl) (w.heap.size + 1) _ rfl 2 (spAt x y) _ rw_i8 R'.out (by omega) ?_; (first | rw [spAt_0] | rw [spAt_1]); simp only [Act.put, List.setIfInBounds_toArray, List.set_cons_succ, List.set_cons_zero]) | (refine wpQuiet_loadmid 38 _ rfl (by first | exact want_n rfl | exact want_g _ _ _ rfl rfl rfl) (w.heap.size + 1) _ rfl 2 2 (spAt x y) _ rw_spot size_spot R'.out (by omega) ?_; rw [sp_row]; simp only [Act.put, List.setIfInBounds_toArray, List.set_cons_succ, List.set_cons_zero]) | go_big_quiet_step (first | (go_at_call 42; exact cls_call _ (fun w hw => asked_ok s _ x y w (row_next hw P.out) hf (by omega) (by omega) hv hh)) | (go_at_call 50; exact cls_call _ (fun w hw => ldark_any s _ x y w (row_next hw P.out) hx hy hf))))); refine wpQuiet_nil ?_; intro Wn hb; replace P := Go.Lib.hid (row_next hb P.out); replace R := Go.Lib.hid (row_next hb R.out); replace Z := Go.Lib.hid (row_next hb Z.out); replace hB := Go.Lib.hid (below_next hB.out hb); clear hb P' R' Z'))
  (refine region_at (by kernel_rfl) (by kernel_rfl) ?_; intro W hW; rw [hW] at hB P R Z; clear hW; have P' := Go.Lib.hid (cls_row' P.out); have R' := Go.Lib.hid (cls_row' R.out); have Z' := Go.Lib.hid (cls_row' Z.out); (repeat (first | go_big_quiet_skip | (refine wpQuiet_load1 23 _ rfl (by first | exact want_n rfl | exact want_g _ _ _ rfl rfl rfl) (w.heap.size) _ rfl 266 s.at _ rw_i16 P'.out (by omega) ?_; (first | rw [Sh.at_0] | rw [Sh.at_1] | rw [Sh.at_wax1 _ _ (by omega)] | rw [Sh.at_wet1 _ _ (8 * y + x) (by omega) (by omega)] | rw [Sh.at_dye1 _ _ (24 * y + 3 * x) (by omega) (by omega)]); simp only [Act.put, List.setIfInBounds_toArray, List.set_cons_succ, List.set_cons_zero]) | (refine wpQuiet_load1 22 _ rfl (by first | exact want_n rfl | exact want_g _ _ _ rfl rfl rfl) (w.heap.size + 1) _ rfl 2 (spAt x y) _ rw_i8 R'.out (by omega) ?_; (first | rw [spAt_0] | rw [spAt_1]); simp only [Act.put, List.setIfInBounds_toArray, List.set_cons_succ, List.set_cons_zero]) | (refine wpQuiet_loadmid 38 _ rfl (by first | exact want_n rfl | exact want_g _ _ _ rfl rfl rfl) (w.heap.size + 1) _ rfl 2 2 (spAt x y) _ rw_spot size_spot R'.out (by omega) ?_; rw [sp_row]; simp only [Act.put, List.setIfInBounds_toArray, List.set_cons_succ, List.set_cons_zero]) | go_big_quiet_step (first | (go_at_call 42; exact cls_call _ (fun w hw => asked_ok s _ x y w (row_next hw P.out) hf (by omega) (by omega) hv hh)) | (go_at_call 50; exact cls_call _ (fun w hw => ldark_any s _ x y w (row_next hw P.out) hx hy hf))))); refine wpQuiet_nil ?_; intro Wn hb; replace P := Go.Lib.hid (row_next hb P.out); replace R := Go.Lib.hid (row_next hb R.out); replace Z := Go.Lib.hid (row_next hb Z.out); replace hB := Go.Lib.hid (below_next hB.out hb); clear hb P' R' Z')
  go_wp2_with (first
    | (refine wpList_built rfl 36 [] rfl [] (by rfl) _ built_zero ?_)
    | (refine wpList_storeall rfl 36 (.tmp 6) (.tmp 29) rfl (w.heap.size + 2) rfl 266 Sh.zero.at Sh.zero.at rfl 36 size_sheet Z.out (fun i _ => Sh.one _ i) ?_; replace Z := Go.Lib.hid (row_set Z.out (vrow 266 Sh.zero.at)); replace hB := Go.Lib.hid (Below_setRow hB.out (show w.heap.size ≤ w.heap.size + 2 by omega) (vrow 266 Sh.zero.at))))
  exact ret_row2 Tryd.results26 (w.heap.size + 2) 266 Sh.zero.at 36 _ Tryd.underlying36 rfl size_sheet (.int .i64 4) rfl rfl rfl Z.out ⟨rfl, hB.out⟩
set_option maxHeartbeats 400000 in
theorem implWaxC_wet (s : Sh) (x y : Nat) (on : Bool) (e : ErrE) (w : World) (hE : Errs e w) (hf : s.fit) (hx : x < 8) (hy : y < 8) (hv : okI s = true) (hh : hasB s x y = true) (hb : bareB s x y = false) : Calls Tryd.prog 27 #[.agg s.row, .agg #[.int .i8 x, .int .i8 y], .bool on] w fun o w' => o = .returned (.tuple #[.agg Sh.zero.row, .int .i64 4]) ∧ Below w.heap.size w w' := by
  have zz := zero_sheet
  rw [sp_vrow]
  have hB : Hid (Below w.heap.size w (((w.alloc (.cells (vrow 266 s.at) 36)).alloc (.cells (vrow 2 (spAt x y)) 38)).alloc (.cells (vrow 266 Sh.zero.at) 36))) := ((((Below.refl w.heap.size w).alloc (by simp <;> omega) _).alloc (by simp <;> omega) _).alloc (by simp <;> omega) _)
  have P : Hid ((((w.alloc (.cells (vrow 266 s.at) 36)).alloc (.cells (vrow 2 (spAt x y)) 38)).alloc (.cells (vrow 266 Sh.zero.at) 36)).heap[(w.heap.size)]? = some (.cells (vrow 266 s.at) 36)) := heap_past _ _ _ _ (by first | omega | (simp <;> omega)) (heap_past _ _ _ _ (by first | omega | (simp <;> omega)) (heap_at _ _ _ (by simp)))
  have R : Hid ((((w.alloc (.cells (vrow 266 s.at) 36)).alloc (.cells (vrow 2 (spAt x y)) 38)).alloc (.cells (vrow 266 Sh.zero.at) 36)).heap[(w.heap.size + 1)]? = some (.cells (vrow 2 (spAt x y)) 38)) := heap_past _ _ _ _ (by first | omega | (simp <;> omega)) (heap_at _ _ _ (by simp))
  have Z : Hid ((((w.alloc (.cells (vrow 266 s.at) 36)).alloc (.cells (vrow 2 (spAt x y)) 38)).alloc (.cells (vrow 266 Sh.zero.at) 36)).heap[(w.heap.size + 1 + 1)]? = some (.cells (vrow 266 Sh.zero.at) 36)) := heap_at _ _ _ (by simp)
  have E : Hid (Errs e (((w.alloc (.cells (vrow 266 s.at) 36)).alloc (.cells (vrow 2 (spAt x y)) 38)).alloc (.cells (vrow 266 Sh.zero.at) 36))) := (((hE).alloc _).alloc _).alloc _
  go_enter Tryd.func27, Tryd.ntmps27
  go_wp2_with (first
    | (refine wpList_built rfl 36 [] rfl [] (by rfl) _ built_zero ?_)
    | (refine wpList_storeall rfl 36 (.tmp 6) (.tmp 14) rfl (w.heap.size + 2) rfl 266 Sh.zero.at Sh.zero.at rfl 36 size_sheet Z.out (fun i _ => Sh.one _ i) ?_; replace Z := Go.Lib.hid (row_set Z.out (vrow 266 Sh.zero.at)); replace hB := Go.Lib.hid (Below_setRow hB.out (show w.heap.size ≤ w.heap.size + 2 by omega) (vrow 266 Sh.zero.at)))
    | (go_at_call 58; (refine (checkWax_wet s x y hx hy hv hh hb e _ E.out).mono ?_; rintro e w1 ⟨rfl, hb⟩; replace P := Go.Lib.hid (row_next hb P.out); replace R := Go.Lib.hid (row_next hb R.out); replace Z := Go.Lib.hid (row_next hb Z.out); replace hB := Go.Lib.hid (below_next hB.out hb); replace E := Go.Lib.hid (E.out.next hb); clear hb ))
    | (go_at_call 47; (refine (codeOf_4 e _ E.out).mono ?_; rintro e w1 ⟨rfl, hb⟩; replace P := Go.Lib.hid (row_next hb P.out); replace R := Go.Lib.hid (row_next hb R.out); replace Z := Go.Lib.hid (row_next hb Z.out); replace hB := Go.Lib.hid (below_next hB.out hb); replace E := Go.Lib.hid (E.out.next hb); clear hb ))
    | (refine list_at 9 rfl ?_; intro W hW; rw [hW] at hB E P R Z; clear hW; have P' := Go.Lib.hid (cls_row' P.out); have R' := Go.Lib.hid (cls_row' R.out); have Z' := Go.Lib.hid (cls_row' Z.out); (repeat (first | go_big_quiet_skip | (refine wpQuiet_loadmid 36 _ rfl (by first | exact want_n rfl | exact want_g _ _ _ rfl rfl rfl) (w.heap.size) _ rfl 266 266 s.at _ rw_sheet size_sheet P'.out (by omega) ?_; rw [sh_row]; simp only [Act.put, List.setIfInBounds_toArray, List.set_cons_succ, List.set_cons_zero]) | (refine wpQuiet_loadmid 38 _ rfl (by first | exact want_n rfl | exact want_g _ _ _ rfl rfl rfl) (w.heap.size + 1) _ rfl 2 2 (spAt x y) _ rw_spot size_spot R'.out (by omega) ?_; rw [sp_row]; simp only [Act.put, List.setIfInBounds_toArray, List.set_cons_succ, List.set_cons_zero]) | go_big_quiet_step (first | (go_at_call 58; exact cls_call _ (fun w hw => checkWax_wet s x y hx hy hv hh hb e w (E.out.next hw))) | (go_at_call 47; exact cls_call _ (fun w hw => codeOf_4 e w (E.out.next hw)))))); refine wpQuiet_nil ?_; intro Wn hb; replace P := Go.Lib.hid (row_next hb P.out); replace R := Go.Lib.hid (row_next hb R.out); replace Z := Go.Lib.hid (row_next hb Z.out); replace hB := Go.Lib.hid (below_next hB.out hb); replace E := Go.Lib.hid (E.out.next hb); clear hb P' R' Z'))
  exact ret_row2 Tryd.results27 (w.heap.size + 2) 266 Sh.zero.at 36 _ Tryd.underlying36 rfl size_sheet (.int .i64 4) rfl rfl rfl Z.out ⟨rfl, hB.out⟩
theorem setWax_wax (s : Sh) (y : Nat) (v : Int) : (s.setWax y v).wax y = v := by simp [Sh.setWax]
theorem sh_nat : ∀ x : Nat, x < 8 → IntKind.u8.wrap (2 ^ min (IntKind.u64.wrap (x : Int)).toNat 8) = 2 ^ x % 256 := by decide +kernel
set_option maxHeartbeats 400000 in
theorem withWax_on' (r : Int) (x : Nat) (hx : x < 8) (w : World) : Calls Tryd.prog 59 #[.int .u8 r, .int .i8 x, .bool true] w fun e w' => e = .returned (.int .u8 (onB r x)) ∧ w' = w := by
  have hxI : (x : Int) < 8 := by omega
  go_enter Tryd.func59, Tryd.ntmps59
  go_wp2
  go_ret
  exact ⟨rfl, rfl⟩
set_option maxHeartbeats 400000 in
theorem withWax_off' (r : Int) (x : Nat) (hx : x < 8) (w : World) : Calls Tryd.prog 59 #[.int .u8 r, .int .i8 x, .bool false] w fun e w' => e = .returned (.int .u8 (offB r x)) ∧ w' = w := by
  have hxI : (x : Int) < 8 := by omega
  go_enter Tryd.func59, Tryd.ntmps59
  go_wp2
  go_ret
  exact ⟨rfl, rfl⟩
set_option maxHeartbeats 2000000 in
theorem specWaxC_on (s : Sh) (x y : Nat) (w : World) (hf : s.fit) (hx : x < 8) (hy : y < 8) (hv : okI s = true) (hh : hasB s x y = true) (hw : s.wet (8 * y + x) = 0) (hd : darkB s x y = 0) : Calls Tryd.prog 26 #[.agg s.row, .agg #[.int .i8 x, .int .i8 y], .bool true] w fun e w' => e = .returned (.tuple #[.agg (s.setWax y (onB (s.wax y) x)).row, .int .i64 0]) ∧ Below w.heap.size w w' := by
  have t1 : decide (0 < s.wet (8 * y + x)) = false := by simp; omega
  have t2 : decide (0 < darkB s x y) = false := by simp; omega
  clear hw hd
  have hwb := hf.wet (8 * y + x) (by omega)
  have hwx := hf.wax y hy
  have hxI : (x : Int) < 8 := by omega
  have hyI : (y : Int) < 8 := by omega
  have zz := zero_sheet
  rw [sp_vrow]
  have hB : Hid (Below w.heap.size w (((w.alloc (.cells (vrow 266 s.at) 36)).alloc (.cells (vrow 2 (spAt x y)) 38)).alloc (.cells (vrow 266 Sh.zero.at) 36))) := ((((Below.refl w.heap.size w).alloc (by simp <;> omega) _).alloc (by simp <;> omega) _).alloc (by simp <;> omega) _)
  have P : Hid ((((w.alloc (.cells (vrow 266 s.at) 36)).alloc (.cells (vrow 2 (spAt x y)) 38)).alloc (.cells (vrow 266 Sh.zero.at) 36)).heap[(w.heap.size)]? = some (.cells (vrow 266 s.at) 36)) := heap_past _ _ _ _ (by first | omega | (simp <;> omega)) (heap_past _ _ _ _ (by first | omega | (simp <;> omega)) (heap_at _ _ _ (by simp)))
  have R : Hid ((((w.alloc (.cells (vrow 266 s.at) 36)).alloc (.cells (vrow 2 (spAt x y)) 38)).alloc (.cells (vrow 266 Sh.zero.at) 36)).heap[(w.heap.size + 1)]? = some (.cells (vrow 2 (spAt x y)) 38)) := heap_past _ _ _ _ (by first | omega | (simp <;> omega)) (heap_at _ _ _ (by simp))
  have Z : Hid ((((w.alloc (.cells (vrow 266 s.at) 36)).alloc (.cells (vrow 2 (spAt x y)) 38)).alloc (.cells (vrow 266 Sh.zero.at) 36)).heap[(w.heap.size + 1 + 1)]? = some (.cells (vrow 266 Sh.zero.at) 36)) := heap_at _ _ _ (by simp)
  go_enter Tryd.func26, Tryd.ntmps26
  go_wp2_with (first
    | (go_at_call 42; (refine (asked_ok s _ x y _ P.out hf (by omega) (by omega) hv hh).mono ?_; rintro e w1 ⟨rfl, hb⟩; replace P := Go.Lib.hid (row_next hb P.out); replace R := Go.Lib.hid (row_next hb R.out); replace Z := Go.Lib.hid (row_next hb Z.out); replace hB := Go.Lib.hid (below_next hB.out hb); clear hb ))
    | (go_at_call 50; (refine (ldark_any s _ x y _ P.out hx hy hf).mono ?_; rintro e w1 ⟨rfl, hb⟩; replace P := Go.Lib.hid (row_next hb P.out); replace R := Go.Lib.hid (row_next hb R.out); replace Z := Go.Lib.hid (row_next hb Z.out); replace hB := Go.Lib.hid (below_next hB.out hb); clear hb ))
    | (refine list_at 9 rfl ?_; intro W hW; rw [hW] at hB P R Z; clear hW; have P' := Go.Lib.hid (cls_row' P.out); have R' := Go.Lib.hid (cls_row' R.out); have Z' := Go.Lib.hid (cls_row' Z.out); (repeat (first | go_big_quiet_skip | (refine wpQuiet_load1 23 _ rfl (by first | exact want_n rfl | exact want_g _ _ _ rfl rfl rfl) (w.heap.size) _ rfl 266 s.at _ rw_i16 P'.out (by omega) ?_; (first | rw [Sh.at_0] | rw [Sh.at_1] | rw [Sh.at_wax1 _ _ (by omega)] | rw [Sh.at_wet1 _ _ (8 * y + x) (by omega) (by omega)] | rw [Sh.at_dye1 _ _ (24 * y + 3 * x) (by omega) (by omega)]); simp only [Act.put, List.setIfInBounds_toArray, List.set_cons_succ, List.set_cons_zero]) | (refine wpQuiet_load1 22 _ rfl (by first | exact want_n rfl | exact want_g _ _ _ rfl rfl rfl) (w.heap.size + 1) _ rfl 2 (spAt x y) _ rw_i8 R'.out (by omega) ?_; (first | rw [spAt_0] | rw [spAt_1]); simp only [Act.put, List.setIfInBounds_toArray, List.set_cons_succ, List.set_cons_zero]) | (refine wpQuiet_loadmid 38 _ rfl (by first | exact want_n rfl | exact want_g _ _ _ rfl rfl rfl) (w.heap.size + 1) _ rfl 2 2 (spAt x y) _ rw_spot size_spot R'.out (by omega) ?_; rw [sp_row]; simp only [Act.put, List.setIfInBounds_toArray, List.set_cons_succ, List.set_cons_zero]) | go_big_quiet_step (first | (go_at_call 42; exact cls_call _ (fun w hw => asked_ok s _ x y w (row_next hw P.out) hf (by omega) (by omega) hv hh)) | (go_at_call 50; exact cls_call _ (fun w hw => ldark_any s _ x y w (row_next hw P.out) hx hy hf))))); refine wpQuiet_nil ?_; intro Wn hb; replace P := Go.Lib.hid (row_next hb P.out); replace R := Go.Lib.hid (row_next hb R.out); replace Z := Go.Lib.hid (row_next hb Z.out); replace hB := Go.Lib.hid (below_next hB.out hb); clear hb P' R' Z'))
  (refine region_at (by kernel_rfl) (by kernel_rfl) ?_; intro W hW; rw [hW] at hB P R Z; clear hW; have P' := Go.Lib.hid (cls_row' P.out); have R' := Go.Lib.hid (cls_row' R.out); have Z' := Go.Lib.hid (cls_row' Z.out); (repeat (first | go_big_quiet_skip | (refine wpQuiet_load1 23 _ rfl (by first | exact want_n rfl | exact want_g _ _ _ rfl rfl rfl) (w.heap.size) _ rfl 266 s.at _ rw_i16 P'.out (by omega) ?_; (first | rw [Sh.at_0] | rw [Sh.at_1] | rw [Sh.at_wax1 _ _ (by omega)] | rw [Sh.at_wet1 _ _ (8 * y + x) (by omega) (by omega)] | rw [Sh.at_dye1 _ _ (24 * y + 3 * x) (by omega) (by omega)]); simp only [Act.put, List.setIfInBounds_toArray, List.set_cons_succ, List.set_cons_zero]) | (refine wpQuiet_load1 22 _ rfl (by first | exact want_n rfl | exact want_g _ _ _ rfl rfl rfl) (w.heap.size + 1) _ rfl 2 (spAt x y) _ rw_i8 R'.out (by omega) ?_; (first | rw [spAt_0] | rw [spAt_1]); simp only [Act.put, List.setIfInBounds_toArray, List.set_cons_succ, List.set_cons_zero]) | (refine wpQuiet_loadmid 38 _ rfl (by first | exact want_n rfl | exact want_g _ _ _ rfl rfl rfl) (w.heap.size + 1) _ rfl 2 2 (spAt x y) _ rw_spot size_spot R'.out (by omega) ?_; rw [sp_row]; simp only [Act.put, List.setIfInBounds_toArray, List.set_cons_succ, List.set_cons_zero]) | go_big_quiet_step (first | (go_at_call 42; exact cls_call _ (fun w hw => asked_ok s _ x y w (row_next hw P.out) hf (by omega) (by omega) hv hh)) | (go_at_call 50; exact cls_call _ (fun w hw => ldark_any s _ x y w (row_next hw P.out) hx hy hf))))); refine wpQuiet_nil ?_; intro Wn hb; replace P := Go.Lib.hid (row_next hb P.out); replace R := Go.Lib.hid (row_next hb R.out); replace Z := Go.Lib.hid (row_next hb Z.out); replace hB := Go.Lib.hid (below_next hB.out hb); clear hb P' R' Z')
  go_wp2
  refine wp_region_still_tail 12 (by kernel_rfl) (by kernel_rfl) ?_
  simp only [List.take_succ_cons, List.take_zero, List.drop_succ_cons, List.drop_zero, World.drew_eq]
  repeat (first
    | (refine wpStill_load1 rfl 22 _ rfl (w.heap.size + 1) _ rfl 2 (spAt x y) _ _ Tryd.underlying22 rfl R.out (by omega) ?_; (first | rw [spAt_0] | rw [spAt_1]); simp only [Act.put, List.setIfInBounds_toArray, List.set_cons_succ, List.set_cons_zero])
    | (refine wpStill_load1 rfl 5 _ rfl w.heap.size _ rfl 266 s.at _ _ Tryd.underlying5 rfl P.out (by omega) ?_; rw [Sh.at_wax1 _ _ (by omega)]; simp only [Act.put, List.setIfInBounds_toArray, List.set_cons_succ, List.set_cons_zero])
    | still_step
    | (refine wpStill_step (fun K hK => ?_); go_simp; simp only [hxI, hyI, if_true]; go_simp; refine hK _ ?_; clear hK K))
  refine wpStill_nil ?_
  refine wpList_store1 rfl 5 (.tmp 41) (.tmp 39) rfl w.heap.size (258 + y) rfl 266 s.at (.int .u8 (offB (s.wax y) x)) (by unfold offB; rw [← sh_nat x hx]; rfl) 36 size_u8 P.out (by omega) rfl ?_
  rw [wax_at s y hy]
  have P2 := row_set (w := Wn.drew) P.out (vrow 266 (s.setWax y (offB (s.wax y) x)).at)
  have R2 := row_set' (w := Wn.drew) (g := w.heap.size) (show w.heap.size + 1 ≠ w.heap.size by omega) R.out (vrow 266 (s.setWax y (offB (s.wax y) x)).at)
  have Z2 := row_set' (w := Wn.drew) (g := w.heap.size) (show w.heap.size + 2 ≠ w.heap.size by omega) Z.out (vrow 266 (s.setWax y (offB (s.wax y) x)).at)
  have hB2 := Below_setRow hB.out.drew (Nat.le_refl w.heap.size) (vrow 266 (s.setWax y (offB (s.wax y) x)).at)
  clear P R Z hB
  generalize World.setRow Wn.drew _ _ = W2 at P2 R2 Z2 hB2 ⊢
  have P := Go.Lib.hid P2; have R := Go.Lib.hid R2; have Z := Go.Lib.hid Z2; have hB := Go.Lib.hid hB2
  clear P2 R2 Z2 hB2
  go_wp2
  refine wp_region_still_tail 12 (by kernel_rfl) (by kernel_rfl) ?_
  simp only [List.take_succ_cons, List.take_zero, List.drop_succ_cons, List.drop_zero, World.drew_eq]
  repeat (first
    | (refine wpStill_load1 rfl 22 _ rfl (w.heap.size + 1) _ rfl 2 (spAt x y) _ _ Tryd.underlying22 rfl R.out (by omega) ?_; (first | rw [spAt_0] | rw [spAt_1]); simp only [Act.put, List.setIfInBounds_toArray, List.set_cons_succ, List.set_cons_zero])
    | (refine wpStill_load1 rfl 5 _ rfl w.heap.size _ rfl 266 (s.setWax y (offB (s.wax y) x)).at _ _ Tryd.underlying5 rfl P.out (by omega) ?_; rw [Sh.at_wax1 _ _ (by omega), setWax_wax]; simp only [Act.put, List.setIfInBounds_toArray, List.set_cons_succ, List.set_cons_zero])
    | still_step
    | (refine wpStill_step (fun K hK => ?_); go_simp; simp only [hxI, hyI, if_true]; go_simp; refine hK _ ?_; clear hK K))
  refine wpStill_nil ?_
  refine wpList_store1 rfl 5 (.tmp 54) (.tmp 52) rfl w.heap.size (258 + y) rfl 266 (s.setWax y (offB (s.wax y) x)).at (.int .u8 (onB (offB (s.wax y) x) x)) (by unfold onB; rw [← sh_nat x hx]; rfl) 36 size_u8 P.out (by omega) rfl ?_
  rw [wax_at (s.setWax y (offB (s.wax y) x)) y hy, setWax_two]
  have P2 := row_set (w := W2.drew) P.out (vrow 266 (s.setWax y (onB (offB (s.wax y) x) x)).at)
  have R2 := row_set' (w := W2.drew) (g := w.heap.size) (show w.heap.size + 1 ≠ w.heap.size by omega) R.out (vrow 266 (s.setWax y (onB (offB (s.wax y) x) x)).at)
  have Z2 := row_set' (w := W2.drew) (g := w.heap.size) (show w.heap.size + 2 ≠ w.heap.size by omega) Z.out (vrow 266 (s.setWax y (onB (offB (s.wax y) x) x)).at)
  have hB2 := Below_setRow hB.out.drew (Nat.le_refl w.heap.size) (vrow 266 (s.setWax y (onB (offB (s.wax y) x) x)).at)
  clear P R Z hB
  generalize World.setRow W2.drew _ _ = W3 at P2 R2 Z2 hB2 ⊢
  have P := Go.Lib.hid P2; have R := Go.Lib.hid R2; have Z := Go.Lib.hid Z2; have hB := Go.Lib.hid hB2
  clear P2 R2 Z2 hB2
  rw [on_off _ x hwx hx] at P
  go_wp2_with (first
    | (refine wpList_loadall rfl 36 (.tmp 3) rfl _ rfl 266 (s.setWax y (onB (s.wax y) x)).at 36 _ Tryd.underlying36 rfl size_sheet P.out ?_)
    | (refine wpList_storeall rfl 36 (.tmp 6) (.tmp 55) rfl (w.heap.size + 2) rfl 266 Sh.zero.at (s.setWax y (onB (s.wax y) x)).at rfl 36 size_sheet Z.out (fun i _ => Sh.one _ i) ?_; replace Z := Go.Lib.hid (row_set Z.out (vrow 266 (s.setWax y (onB (s.wax y) x)).at)); replace hB := Go.Lib.hid (Below_setRow hB.out (show w.heap.size ≤ w.heap.size + 2 by omega) (vrow 266 (s.setWax y (onB (s.wax y) x)).at))))
  exact ret_row2 Tryd.results26 (w.heap.size + 2) 266 (s.setWax y (onB (s.wax y) x)).at 36 _ Tryd.underlying36 rfl size_sheet (.int .i64 0) rfl rfl rfl Z.out ⟨rfl, hB.out⟩
set_option maxHeartbeats 2000000 in
theorem implWaxC_on (s : Sh) (x y : Nat) (e : ErrE) (w : World) (hE : Errs e w) (hf : s.fit) (hx : x < 8) (hy : y < 8) (hv : okI s = true) (hh : hasB s x y = true) (hb : bareB s x y = true) : Calls Tryd.prog 27 #[.agg s.row, .agg #[.int .i8 x, .int .i8 y], .bool true] w fun o w' => o = .returned (.tuple #[.agg (s.setWax y (onB (s.wax y) x)).row, .int .i64 0]) ∧ Below w.heap.size w w' := by
  have hxI : (x : Int) < 8 := by omega
  have hyI : (y : Int) < 8 := by omega
  have zz := zero_sheet
  rw [sp_vrow]
  have hB : Hid (Below w.heap.size w (((w.alloc (.cells (vrow 266 s.at) 36)).alloc (.cells (vrow 2 (spAt x y)) 38)).alloc (.cells (vrow 266 Sh.zero.at) 36))) := ((((Below.refl w.heap.size w).alloc (by simp <;> omega) _).alloc (by simp <;> omega) _).alloc (by simp <;> omega) _)
  have P : Hid ((((w.alloc (.cells (vrow 266 s.at) 36)).alloc (.cells (vrow 2 (spAt x y)) 38)).alloc (.cells (vrow 266 Sh.zero.at) 36)).heap[(w.heap.size)]? = some (.cells (vrow 266 s.at) 36)) := heap_past _ _ _ _ (by first | omega | (simp <;> omega)) (heap_past _ _ _ _ (by first | omega | (simp <;> omega)) (heap_at _ _ _ (by simp)))
  have R : Hid ((((w.alloc (.cells (vrow 266 s.at) 36)).alloc (.cells (vrow 2 (spAt x y)) 38)).alloc (.cells (vrow 266 Sh.zero.at) 36)).heap[(w.heap.size + 1)]? = some (.cells (vrow 2 (spAt x y)) 38)) := heap_past _ _ _ _ (by first | omega | (simp <;> omega)) (heap_at _ _ _ (by simp))
  have Z : Hid ((((w.alloc (.cells (vrow 266 s.at) 36)).alloc (.cells (vrow 2 (spAt x y)) 38)).alloc (.cells (vrow 266 Sh.zero.at) 36)).heap[(w.heap.size + 1 + 1)]? = some (.cells (vrow 266 Sh.zero.at) 36)) := heap_at _ _ _ (by simp)
  have E : Hid (Errs e (((w.alloc (.cells (vrow 266 s.at) 36)).alloc (.cells (vrow 2 (spAt x y)) 38)).alloc (.cells (vrow 266 Sh.zero.at) 36))) := (((hE).alloc _).alloc _).alloc _
  go_enter Tryd.func27, Tryd.ntmps27
  go_wp2_with (first
    | (go_at_call 58; (refine (checkWax_ok s x y hx hy hv hh hb e _ E.out).mono ?_; rintro e w1 ⟨rfl, hb⟩; replace P := Go.Lib.hid (row_next hb P.out); replace R := Go.Lib.hid (row_next hb R.out); replace Z := Go.Lib.hid (row_next hb Z.out); replace hB := Go.Lib.hid (below_next hB.out hb); replace E := Go.Lib.hid (E.out.next hb); clear hb ))
    | (refine list_at 9 rfl ?_; intro W hW; rw [hW] at hB E P R Z; clear hW; have P' := Go.Lib.hid (cls_row' P.out); have R' := Go.Lib.hid (cls_row' R.out); have Z' := Go.Lib.hid (cls_row' Z.out); (repeat (first | go_big_quiet_skip | (refine wpQuiet_loadmid 36 _ rfl (by first | exact want_n rfl | exact want_g _ _ _ rfl rfl rfl) (w.heap.size) _ rfl 266 266 s.at _ rw_sheet size_sheet P'.out (by omega) ?_; rw [sh_row]; simp only [Act.put, List.setIfInBounds_toArray, List.set_cons_succ, List.set_cons_zero]) | (refine wpQuiet_loadmid 38 _ rfl (by first | exact want_n rfl | exact want_g _ _ _ rfl rfl rfl) (w.heap.size + 1) _ rfl 2 2 (spAt x y) _ rw_spot size_spot R'.out (by omega) ?_; rw [sp_row]; simp only [Act.put, List.setIfInBounds_toArray, List.set_cons_succ, List.set_cons_zero]) | go_big_quiet_step ((go_at_call 58; exact cls_call _ (fun w hw => checkWax_ok s x y hx hy hv hh hb e w (E.out.next hw)))))); refine wpQuiet_nil ?_; intro Wn hb; replace P := Go.Lib.hid (row_next hb P.out); replace R := Go.Lib.hid (row_next hb R.out); replace Z := Go.Lib.hid (row_next hb Z.out); replace hB := Go.Lib.hid (below_next hB.out hb); replace E := Go.Lib.hid (E.out.next hb); clear hb P' R' Z'))
  clear E
  refine wp_region_still_tail 13 (by kernel_rfl) (by kernel_rfl) ?_
  simp only [List.take_succ_cons, List.take_zero, List.drop_succ_cons, List.drop_zero, World.drew_eq]
  repeat (first
    | (refine wpStill_load1 rfl 22 _ rfl (w.heap.size + 1) _ rfl 2 (spAt x y) _ _ Tryd.underlying22 rfl R.out (by omega) ?_; (first | rw [spAt_0] | rw [spAt_1]); simp only [Act.put, List.setIfInBounds_toArray, List.set_cons_succ, List.set_cons_zero])
    | (refine wpStill_load1 rfl 5 _ rfl w.heap.size _ rfl 266 s.at _ _ Tryd.underlying5 rfl P.out (by omega) ?_; rw [Sh.at_wax1 _ _ (by omega)]; simp only [Act.put, List.setIfInBounds_toArray, List.set_cons_succ, List.set_cons_zero])
    | still_step
    | (refine wpStill_step (fun K hK => ?_); go_simp; refine ⟨_, withWax_on' (s.wax y) x hx _, hK _ ?_⟩; clear hK K)
    | (refine wpStill_step (fun K hK => ?_); go_simp; simp only [hxI, hyI, if_true]; go_simp; refine hK _ ?_; clear hK K))
  refine wpStill_nil ?_
  refine wpList_store1 rfl 5 (.tmp 29) (.tmp 27) rfl w.heap.size (258 + y) rfl 266 s.at (.int .u8 (onB (s.wax y) x)) (rfl) 36 size_u8 P.out (by omega) rfl ?_
  rw [wax_at s y hy]
  have P2 := row_set (w := Wn.drew) P.out (vrow 266 (s.setWax y (onB (s.wax y) x)).at)
  have R2 := row_set' (w := Wn.drew) (g := w.heap.size) (show w.heap.size + 1 ≠ w.heap.size by omega) R.out (vrow 266 (s.setWax y (onB (s.wax y) x)).at)
  have Z2 := row_set' (w := Wn.drew) (g := w.heap.size) (show w.heap.size + 2 ≠ w.heap.size by omega) Z.out (vrow 266 (s.setWax y (onB (s.wax y) x)).at)
  have hB2 := Below_setRow hB.out.drew (Nat.le_refl w.heap.size) (vrow 266 (s.setWax y (onB (s.wax y) x)).at)
  clear P R Z hB
  generalize World.setRow Wn.drew _ _ = W2 at P2 R2 Z2 hB2 ⊢
  have P := Go.Lib.hid P2; have R := Go.Lib.hid R2; have Z := Go.Lib.hid Z2; have hB := Go.Lib.hid hB2
  clear P2 R2 Z2 hB2
  go_wp2_with (first
    | (refine wpList_loadall rfl 36 (.tmp 3) rfl _ rfl 266 (s.setWax y (onB (s.wax y) x)).at 36 _ Tryd.underlying36 rfl size_sheet P.out ?_)
    | (refine wpList_storeall rfl 36 (.tmp 6) (.tmp 30) rfl (w.heap.size + 2) rfl 266 Sh.zero.at (s.setWax y (onB (s.wax y) x)).at rfl 36 size_sheet Z.out (fun i _ => Sh.one _ i) ?_; replace Z := Go.Lib.hid (row_set Z.out (vrow 266 (s.setWax y (onB (s.wax y) x)).at)); replace hB := Go.Lib.hid (Below_setRow hB.out (show w.heap.size ≤ w.heap.size + 2 by omega) (vrow 266 (s.setWax y (onB (s.wax y) x)).at))))
  exact ret_row2 Tryd.results27 (w.heap.size + 2) 266 (s.setWax y (onB (s.wax y) x)).at 36 _ Tryd.underlying36 rfl size_sheet (.int .i64 0) rfl rfl rfl Z.out ⟨rfl, hB.out⟩
set_option maxHeartbeats 2000000 in
theorem specWaxC_off (s : Sh) (x y : Nat) (w : World) (hf : s.fit) (hx : x < 8) (hy : y < 8) (hv : okI s = true) (hh : hasB s x y = true) (hw : s.wet (8 * y + x) = 0) (hd : darkB s x y = 0) : Calls Tryd.prog 26 #[.agg s.row, .agg #[.int .i8 x, .int .i8 y], .bool false] w fun e w' => e = .returned (.tuple #[.agg (s.setWax y (offB (s.wax y) x)).row, .int .i64 0]) ∧ Below w.heap.size w w' := by
  have t1 : decide (0 < s.wet (8 * y + x)) = false := by simp; omega
  have t2 : decide (0 < darkB s x y) = false := by simp; omega
  clear hw hd
  have hwb := hf.wet (8 * y + x) (by omega)
  have hwx := hf.wax y hy
  have hxI : (x : Int) < 8 := by omega
  have hyI : (y : Int) < 8 := by omega
  have zz := zero_sheet
  rw [sp_vrow]
  have hB : Hid (Below w.heap.size w (((w.alloc (.cells (vrow 266 s.at) 36)).alloc (.cells (vrow 2 (spAt x y)) 38)).alloc (.cells (vrow 266 Sh.zero.at) 36))) := ((((Below.refl w.heap.size w).alloc (by simp <;> omega) _).alloc (by simp <;> omega) _).alloc (by simp <;> omega) _)
  have P : Hid ((((w.alloc (.cells (vrow 266 s.at) 36)).alloc (.cells (vrow 2 (spAt x y)) 38)).alloc (.cells (vrow 266 Sh.zero.at) 36)).heap[(w.heap.size)]? = some (.cells (vrow 266 s.at) 36)) := heap_past _ _ _ _ (by first | omega | (simp <;> omega)) (heap_past _ _ _ _ (by first | omega | (simp <;> omega)) (heap_at _ _ _ (by simp)))
  have R : Hid ((((w.alloc (.cells (vrow 266 s.at) 36)).alloc (.cells (vrow 2 (spAt x y)) 38)).alloc (.cells (vrow 266 Sh.zero.at) 36)).heap[(w.heap.size + 1)]? = some (.cells (vrow 2 (spAt x y)) 38)) := heap_past _ _ _ _ (by first | omega | (simp <;> omega)) (heap_at _ _ _ (by simp))
  have Z : Hid ((((w.alloc (.cells (vrow 266 s.at) 36)).alloc (.cells (vrow 2 (spAt x y)) 38)).alloc (.cells (vrow 266 Sh.zero.at) 36)).heap[(w.heap.size + 1 + 1)]? = some (.cells (vrow 266 Sh.zero.at) 36)) := heap_at _ _ _ (by simp)
  go_enter Tryd.func26, Tryd.ntmps26
  go_wp2_with (first
    | (go_at_call 42; (refine (asked_ok s _ x y _ P.out hf (by omega) (by omega) hv hh).mono ?_; rintro e w1 ⟨rfl, hb⟩; replace P := Go.Lib.hid (row_next hb P.out); replace R := Go.Lib.hid (row_next hb R.out); replace Z := Go.Lib.hid (row_next hb Z.out); replace hB := Go.Lib.hid (below_next hB.out hb); clear hb ))
    | (go_at_call 50; (refine (ldark_any s _ x y _ P.out hx hy hf).mono ?_; rintro e w1 ⟨rfl, hb⟩; replace P := Go.Lib.hid (row_next hb P.out); replace R := Go.Lib.hid (row_next hb R.out); replace Z := Go.Lib.hid (row_next hb Z.out); replace hB := Go.Lib.hid (below_next hB.out hb); clear hb ))
    | (refine list_at 9 rfl ?_; intro W hW; rw [hW] at hB P R Z; clear hW; have P' := Go.Lib.hid (cls_row' P.out); have R' := Go.Lib.hid (cls_row' R.out); have Z' := Go.Lib.hid (cls_row' Z.out); (repeat (first | go_big_quiet_skip | (refine wpQuiet_load1 23 _ rfl (by first | exact want_n rfl | exact want_g _ _ _ rfl rfl rfl) (w.heap.size) _ rfl 266 s.at _ rw_i16 P'.out (by omega) ?_; (first | rw [Sh.at_0] | rw [Sh.at_1] | rw [Sh.at_wax1 _ _ (by omega)] | rw [Sh.at_wet1 _ _ (8 * y + x) (by omega) (by omega)] | rw [Sh.at_dye1 _ _ (24 * y + 3 * x) (by omega) (by omega)]); simp only [Act.put, List.setIfInBounds_toArray, List.set_cons_succ, List.set_cons_zero]) | (refine wpQuiet_load1 22 _ rfl (by first | exact want_n rfl | exact want_g _ _ _ rfl rfl rfl) (w.heap.size + 1) _ rfl 2 (spAt x y) _ rw_i8 R'.out (by omega) ?_; (first | rw [spAt_0] | rw [spAt_1]); simp only [Act.put, List.setIfInBounds_toArray, List.set_cons_succ, List.set_cons_zero]) | (refine wpQuiet_loadmid 38 _ rfl (by first | exact want_n rfl | exact want_g _ _ _ rfl rfl rfl) (w.heap.size + 1) _ rfl 2 2 (spAt x y) _ rw_spot size_spot R'.out (by omega) ?_; rw [sp_row]; simp only [Act.put, List.setIfInBounds_toArray, List.set_cons_succ, List.set_cons_zero]) | go_big_quiet_step (first | (go_at_call 42; exact cls_call _ (fun w hw => asked_ok s _ x y w (row_next hw P.out) hf (by omega) (by omega) hv hh)) | (go_at_call 50; exact cls_call _ (fun w hw => ldark_any s _ x y w (row_next hw P.out) hx hy hf))))); refine wpQuiet_nil ?_; intro Wn hb; replace P := Go.Lib.hid (row_next hb P.out); replace R := Go.Lib.hid (row_next hb R.out); replace Z := Go.Lib.hid (row_next hb Z.out); replace hB := Go.Lib.hid (below_next hB.out hb); clear hb P' R' Z'))
  (refine region_at (by kernel_rfl) (by kernel_rfl) ?_; intro W hW; rw [hW] at hB P R Z; clear hW; have P' := Go.Lib.hid (cls_row' P.out); have R' := Go.Lib.hid (cls_row' R.out); have Z' := Go.Lib.hid (cls_row' Z.out); (repeat (first | go_big_quiet_skip | (refine wpQuiet_load1 23 _ rfl (by first | exact want_n rfl | exact want_g _ _ _ rfl rfl rfl) (w.heap.size) _ rfl 266 s.at _ rw_i16 P'.out (by omega) ?_; (first | rw [Sh.at_0] | rw [Sh.at_1] | rw [Sh.at_wax1 _ _ (by omega)] | rw [Sh.at_wet1 _ _ (8 * y + x) (by omega) (by omega)] | rw [Sh.at_dye1 _ _ (24 * y + 3 * x) (by omega) (by omega)]); simp only [Act.put, List.setIfInBounds_toArray, List.set_cons_succ, List.set_cons_zero]) | (refine wpQuiet_load1 22 _ rfl (by first | exact want_n rfl | exact want_g _ _ _ rfl rfl rfl) (w.heap.size + 1) _ rfl 2 (spAt x y) _ rw_i8 R'.out (by omega) ?_; (first | rw [spAt_0] | rw [spAt_1]); simp only [Act.put, List.setIfInBounds_toArray, List.set_cons_succ, List.set_cons_zero]) | (refine wpQuiet_loadmid 38 _ rfl (by first | exact want_n rfl | exact want_g _ _ _ rfl rfl rfl) (w.heap.size + 1) _ rfl 2 2 (spAt x y) _ rw_spot size_spot R'.out (by omega) ?_; rw [sp_row]; simp only [Act.put, List.setIfInBounds_toArray, List.set_cons_succ, List.set_cons_zero]) | go_big_quiet_step (first | (go_at_call 42; exact cls_call _ (fun w hw => asked_ok s _ x y w (row_next hw P.out) hf (by omega) (by omega) hv hh)) | (go_at_call 50; exact cls_call _ (fun w hw => ldark_any s _ x y w (row_next hw P.out) hx hy hf))))); refine wpQuiet_nil ?_; intro Wn hb; replace P := Go.Lib.hid (row_next hb P.out); replace R := Go.Lib.hid (row_next hb R.out); replace Z := Go.Lib.hid (row_next hb Z.out); replace hB := Go.Lib.hid (below_next hB.out hb); clear hb P' R' Z')
  go_wp2
  refine wp_region_still_tail 12 (by kernel_rfl) (by kernel_rfl) ?_
  simp only [List.take_succ_cons, List.take_zero, List.drop_succ_cons, List.drop_zero, World.drew_eq]
  repeat (first
    | (refine wpStill_load1 rfl 22 _ rfl (w.heap.size + 1) _ rfl 2 (spAt x y) _ _ Tryd.underlying22 rfl R.out (by omega) ?_; (first | rw [spAt_0] | rw [spAt_1]); simp only [Act.put, List.setIfInBounds_toArray, List.set_cons_succ, List.set_cons_zero])
    | (refine wpStill_load1 rfl 5 _ rfl w.heap.size _ rfl 266 s.at _ _ Tryd.underlying5 rfl P.out (by omega) ?_; rw [Sh.at_wax1 _ _ (by omega)]; simp only [Act.put, List.setIfInBounds_toArray, List.set_cons_succ, List.set_cons_zero])
    | still_step
    | (refine wpStill_step (fun K hK => ?_); go_simp; simp only [hxI, hyI, if_true]; go_simp; refine hK _ ?_; clear hK K))
  refine wpStill_nil ?_
  refine wpList_store1 rfl 5 (.tmp 41) (.tmp 39) rfl w.heap.size (258 + y) rfl 266 s.at (.int .u8 (offB (s.wax y) x)) (by unfold offB; rw [← sh_nat x hx]; rfl) 36 size_u8 P.out (by omega) rfl ?_
  rw [wax_at s y hy]
  have P2 := row_set (w := Wn.drew) P.out (vrow 266 (s.setWax y (offB (s.wax y) x)).at)
  have R2 := row_set' (w := Wn.drew) (g := w.heap.size) (show w.heap.size + 1 ≠ w.heap.size by omega) R.out (vrow 266 (s.setWax y (offB (s.wax y) x)).at)
  have Z2 := row_set' (w := Wn.drew) (g := w.heap.size) (show w.heap.size + 2 ≠ w.heap.size by omega) Z.out (vrow 266 (s.setWax y (offB (s.wax y) x)).at)
  have hB2 := Below_setRow hB.out.drew (Nat.le_refl w.heap.size) (vrow 266 (s.setWax y (offB (s.wax y) x)).at)
  clear P R Z hB
  generalize World.setRow Wn.drew _ _ = W2 at P2 R2 Z2 hB2 ⊢
  have P := Go.Lib.hid P2; have R := Go.Lib.hid R2; have Z := Go.Lib.hid Z2; have hB := Go.Lib.hid hB2
  clear P2 R2 Z2 hB2
  go_wp2_with (first
    | (refine wpList_loadall rfl 36 (.tmp 3) rfl _ rfl 266 (s.setWax y (offB (s.wax y) x)).at 36 _ Tryd.underlying36 rfl size_sheet P.out ?_)
    | (refine wpList_storeall rfl 36 (.tmp 6) (.tmp 55) rfl (w.heap.size + 2) rfl 266 Sh.zero.at (s.setWax y (offB (s.wax y) x)).at rfl 36 size_sheet Z.out (fun i _ => Sh.one _ i) ?_; replace Z := Go.Lib.hid (row_set Z.out (vrow 266 (s.setWax y (offB (s.wax y) x)).at)); replace hB := Go.Lib.hid (Below_setRow hB.out (show w.heap.size ≤ w.heap.size + 2 by omega) (vrow 266 (s.setWax y (offB (s.wax y) x)).at))))
  exact ret_row2 Tryd.results26 (w.heap.size + 2) 266 (s.setWax y (offB (s.wax y) x)).at 36 _ Tryd.underlying36 rfl size_sheet (.int .i64 0) rfl rfl rfl Z.out ⟨rfl, hB.out⟩
set_option maxHeartbeats 2000000 in
theorem implWaxC_off (s : Sh) (x y : Nat) (e : ErrE) (w : World) (hE : Errs e w) (hf : s.fit) (hx : x < 8) (hy : y < 8) (hv : okI s = true) (hh : hasB s x y = true) (hb : bareB s x y = true) : Calls Tryd.prog 27 #[.agg s.row, .agg #[.int .i8 x, .int .i8 y], .bool false] w fun o w' => o = .returned (.tuple #[.agg (s.setWax y (offB (s.wax y) x)).row, .int .i64 0]) ∧ Below w.heap.size w w' := by
  have hxI : (x : Int) < 8 := by omega
  have hyI : (y : Int) < 8 := by omega
  have zz := zero_sheet
  rw [sp_vrow]
  have hB : Hid (Below w.heap.size w (((w.alloc (.cells (vrow 266 s.at) 36)).alloc (.cells (vrow 2 (spAt x y)) 38)).alloc (.cells (vrow 266 Sh.zero.at) 36))) := ((((Below.refl w.heap.size w).alloc (by simp <;> omega) _).alloc (by simp <;> omega) _).alloc (by simp <;> omega) _)
  have P : Hid ((((w.alloc (.cells (vrow 266 s.at) 36)).alloc (.cells (vrow 2 (spAt x y)) 38)).alloc (.cells (vrow 266 Sh.zero.at) 36)).heap[(w.heap.size)]? = some (.cells (vrow 266 s.at) 36)) := heap_past _ _ _ _ (by first | omega | (simp <;> omega)) (heap_past _ _ _ _ (by first | omega | (simp <;> omega)) (heap_at _ _ _ (by simp)))
  have R : Hid ((((w.alloc (.cells (vrow 266 s.at) 36)).alloc (.cells (vrow 2 (spAt x y)) 38)).alloc (.cells (vrow 266 Sh.zero.at) 36)).heap[(w.heap.size + 1)]? = some (.cells (vrow 2 (spAt x y)) 38)) := heap_past _ _ _ _ (by first | omega | (simp <;> omega)) (heap_at _ _ _ (by simp))
  have Z : Hid ((((w.alloc (.cells (vrow 266 s.at) 36)).alloc (.cells (vrow 2 (spAt x y)) 38)).alloc (.cells (vrow 266 Sh.zero.at) 36)).heap[(w.heap.size + 1 + 1)]? = some (.cells (vrow 266 Sh.zero.at) 36)) := heap_at _ _ _ (by simp)
  have E : Hid (Errs e (((w.alloc (.cells (vrow 266 s.at) 36)).alloc (.cells (vrow 2 (spAt x y)) 38)).alloc (.cells (vrow 266 Sh.zero.at) 36))) := (((hE).alloc _).alloc _).alloc _
  go_enter Tryd.func27, Tryd.ntmps27
  go_wp2_with (first
    | (go_at_call 58; (refine (checkWax_ok s x y hx hy hv hh hb e _ E.out).mono ?_; rintro e w1 ⟨rfl, hb⟩; replace P := Go.Lib.hid (row_next hb P.out); replace R := Go.Lib.hid (row_next hb R.out); replace Z := Go.Lib.hid (row_next hb Z.out); replace hB := Go.Lib.hid (below_next hB.out hb); replace E := Go.Lib.hid (E.out.next hb); clear hb ))
    | (refine list_at 9 rfl ?_; intro W hW; rw [hW] at hB E P R Z; clear hW; have P' := Go.Lib.hid (cls_row' P.out); have R' := Go.Lib.hid (cls_row' R.out); have Z' := Go.Lib.hid (cls_row' Z.out); (repeat (first | go_big_quiet_skip | (refine wpQuiet_loadmid 36 _ rfl (by first | exact want_n rfl | exact want_g _ _ _ rfl rfl rfl) (w.heap.size) _ rfl 266 266 s.at _ rw_sheet size_sheet P'.out (by omega) ?_; rw [sh_row]; simp only [Act.put, List.setIfInBounds_toArray, List.set_cons_succ, List.set_cons_zero]) | (refine wpQuiet_loadmid 38 _ rfl (by first | exact want_n rfl | exact want_g _ _ _ rfl rfl rfl) (w.heap.size + 1) _ rfl 2 2 (spAt x y) _ rw_spot size_spot R'.out (by omega) ?_; rw [sp_row]; simp only [Act.put, List.setIfInBounds_toArray, List.set_cons_succ, List.set_cons_zero]) | go_big_quiet_step ((go_at_call 58; exact cls_call _ (fun w hw => checkWax_ok s x y hx hy hv hh hb e w (E.out.next hw)))))); refine wpQuiet_nil ?_; intro Wn hb; replace P := Go.Lib.hid (row_next hb P.out); replace R := Go.Lib.hid (row_next hb R.out); replace Z := Go.Lib.hid (row_next hb Z.out); replace hB := Go.Lib.hid (below_next hB.out hb); replace E := Go.Lib.hid (E.out.next hb); clear hb P' R' Z'))
  clear E
  refine wp_region_still_tail 13 (by kernel_rfl) (by kernel_rfl) ?_
  simp only [List.take_succ_cons, List.take_zero, List.drop_succ_cons, List.drop_zero, World.drew_eq]
  repeat (first
    | (refine wpStill_load1 rfl 22 _ rfl (w.heap.size + 1) _ rfl 2 (spAt x y) _ _ Tryd.underlying22 rfl R.out (by omega) ?_; (first | rw [spAt_0] | rw [spAt_1]); simp only [Act.put, List.setIfInBounds_toArray, List.set_cons_succ, List.set_cons_zero])
    | (refine wpStill_load1 rfl 5 _ rfl w.heap.size _ rfl 266 s.at _ _ Tryd.underlying5 rfl P.out (by omega) ?_; rw [Sh.at_wax1 _ _ (by omega)]; simp only [Act.put, List.setIfInBounds_toArray, List.set_cons_succ, List.set_cons_zero])
    | still_step
    | (refine wpStill_step (fun K hK => ?_); go_simp; refine ⟨_, withWax_off' (s.wax y) x hx _, hK _ ?_⟩; clear hK K)
    | (refine wpStill_step (fun K hK => ?_); go_simp; simp only [hxI, hyI, if_true]; go_simp; refine hK _ ?_; clear hK K))
  refine wpStill_nil ?_
  refine wpList_store1 rfl 5 (.tmp 29) (.tmp 27) rfl w.heap.size (258 + y) rfl 266 s.at (.int .u8 (offB (s.wax y) x)) (rfl) 36 size_u8 P.out (by omega) rfl ?_
  rw [wax_at s y hy]
  have P2 := row_set (w := Wn.drew) P.out (vrow 266 (s.setWax y (offB (s.wax y) x)).at)
  have R2 := row_set' (w := Wn.drew) (g := w.heap.size) (show w.heap.size + 1 ≠ w.heap.size by omega) R.out (vrow 266 (s.setWax y (offB (s.wax y) x)).at)
  have Z2 := row_set' (w := Wn.drew) (g := w.heap.size) (show w.heap.size + 2 ≠ w.heap.size by omega) Z.out (vrow 266 (s.setWax y (offB (s.wax y) x)).at)
  have hB2 := Below_setRow hB.out.drew (Nat.le_refl w.heap.size) (vrow 266 (s.setWax y (offB (s.wax y) x)).at)
  clear P R Z hB
  generalize World.setRow Wn.drew _ _ = W2 at P2 R2 Z2 hB2 ⊢
  have P := Go.Lib.hid P2; have R := Go.Lib.hid R2; have Z := Go.Lib.hid Z2; have hB := Go.Lib.hid hB2
  clear P2 R2 Z2 hB2
  go_wp2_with (first
    | (refine wpList_loadall rfl 36 (.tmp 3) rfl _ rfl 266 (s.setWax y (offB (s.wax y) x)).at 36 _ Tryd.underlying36 rfl size_sheet P.out ?_)
    | (refine wpList_storeall rfl 36 (.tmp 6) (.tmp 30) rfl (w.heap.size + 2) rfl 266 Sh.zero.at (s.setWax y (offB (s.wax y) x)).at rfl 36 size_sheet Z.out (fun i _ => Sh.one _ i) ?_; replace Z := Go.Lib.hid (row_set Z.out (vrow 266 (s.setWax y (offB (s.wax y) x)).at)); replace hB := Go.Lib.hid (Below_setRow hB.out (show w.heap.size ≤ w.heap.size + 2 by omega) (vrow 266 (s.setWax y (offB (s.wax y) x)).at))))
  exact ret_row2 Tryd.results27 (w.heap.size + 2) 266 (s.setWax y (offB (s.wax y) x)).at 36 _ Tryd.underlying36 rfl size_sheet (.int .i64 0) rfl rfl rfl Z.out ⟨rfl, hB.out⟩
end Go.Proofs.YtfdjlflnhhiecaaDoor
