import Derived.Test.YtianedkknlggmaaDiffer
namespace Go.Proofs.Ytianedkknlggmaa
open Go.RowKit
set_option maxRecDepth 100000
set_option linter.unusedVariables false
set_option maxRecDepth 100000 in
set_option maxHeartbeats 1000000 in
theorem specDiffer_na (a b : Sh) (w : World) (ha : a.fit) (hb : b.fit) (hva : okI a = false) : Calls Try.prog 23 #[.agg a.row, .agg b.row] w fun e w' => e = .returned (.tuple #[.int .i64 0, .int .i64 1]) ∧ Below w.heap.size w w' := by
  have HA0 := fun w' hs => ok_any a w.heap.size w' hs ha
  rw [← ok_eq a ha, hva] at HA0
  have HA := Go.Lib.hid HA0
  clear HA0
  clear hva
  clear ha hb
  have hB : Hid (Below w.heap.size w ((w.alloc (.cells (vrow 266 a.at) 33)).alloc (.cells (vrow 266 b.at) 33))) := (((Below.refl w.heap.size w).alloc (by simp <;> omega) _).alloc (by simp <;> omega) _)
  have P : Hid (((w.alloc (.cells (vrow 266 a.at) 33)).alloc (.cells (vrow 266 b.at) 33)).heap[(w.heap.size)]? = some (.cells (vrow 266 a.at) 33)) := heap_past _ _ _ _ (by first | omega | (simp <;> omega)) (heap_at _ _ _ (by simp))
  have R : Hid (((w.alloc (.cells (vrow 266 a.at) 33)).alloc (.cells (vrow 266 b.at) 33)).heap[(w.heap.size + 1)]? = some (.cells (vrow 266 b.at) 33)) := heap_at _ _ _ (by simp)
  go_enter Try.func23, Try.ntmps23
  go_wp2_with (first
    | (go_at_call 54; (refine (HA.out _ P.out).mono ?_; rintro e w1 ⟨rfl, hb⟩; replace P := Go.Lib.hid (row_next hb P.out); replace R := Go.Lib.hid (row_next hb R.out); replace hB := Go.Lib.hid (below_next hB.out hb); clear hb ))
    | (refine list_at 13 rfl ?_; intro W hW; rw [hW] at hB P R; clear hW; have P' := Go.Lib.hid (cls_row' P.out); have R' := Go.Lib.hid (cls_row' R.out); (repeat (first | go_big_quiet_skip | (refine wpQuiet_load1 22 _ rfl (by first | exact want_n rfl | exact want_g _ _ _ rfl rfl rfl) (w.heap.size) _ rfl 266 a.at _ rw_i8 P'.out (by omega) ?_; (first | rw [Sh.at_0] | rw [Sh.at_1] | rw [Sh.at_dye1 _ _ (3 * (8 * k + j) + i) (by omega) (by omega)]); simp only [Act.put, List.setIfInBounds_toArray, List.set_cons_succ, List.set_cons_zero]) | (refine wpQuiet_loadmid 33 _ rfl (by first | exact want_n rfl | exact want_g _ _ _ rfl rfl rfl) (w.heap.size) _ rfl 266 266 a.at _ rw_sheet size_sheet P'.out (by omega) ?_; rw [sh_row]; simp only [Act.put, List.setIfInBounds_toArray, List.set_cons_succ, List.set_cons_zero]) | (refine wpQuiet_load1 22 _ rfl (by first | exact want_n rfl | exact want_g _ _ _ rfl rfl rfl) (w.heap.size + 1) _ rfl 266 b.at _ rw_i8 R'.out (by omega) ?_; (first | rw [Sh.at_0] | rw [Sh.at_1] | rw [Sh.at_dye1 _ _ (3 * (8 * k + j) + i) (by omega) (by omega)]); simp only [Act.put, List.setIfInBounds_toArray, List.set_cons_succ, List.set_cons_zero]) | (refine wpQuiet_loadmid 33 _ rfl (by first | exact want_n rfl | exact want_g _ _ _ rfl rfl rfl) (w.heap.size + 1) _ rfl 266 266 b.at _ rw_sheet size_sheet R'.out (by omega) ?_; rw [sh_row]; simp only [Act.put, List.setIfInBounds_toArray, List.set_cons_succ, List.set_cons_zero]) | go_big_quiet_step ((go_at_call 54; exact cls_call _ (fun w hw => HA.out w (row_next hw P.out)))))); refine wpQuiet_nil ?_; intro Wn hb; replace P := Go.Lib.hid (row_next hb P.out); replace R := Go.Lib.hid (row_next hb R.out); replace hB := Go.Lib.hid (below_next hB.out hb); clear hb P' R'))
  go_ret2
  exact ⟨rfl, hB.out⟩
set_option maxRecDepth 100000 in
set_option maxHeartbeats 1000000 in
theorem specDiffer_nb (a b : Sh) (w : World) (ha : a.fit) (hb : b.fit) (hva : okI a = true) (hvb : okI b = false) : Calls Try.prog 23 #[.agg a.row, .agg b.row] w fun e w' => e = .returned (.tuple #[.int .i64 0, .int .i64 1]) ∧ Below w.heap.size w w' := by
  have HA0 := fun w' hs => ok_any a w.heap.size w' hs ha
  rw [← ok_eq a ha, hva] at HA0
  have HA := Go.Lib.hid HA0
  clear HA0
  have HV0 := fun w' hs => ok_any b (w.heap.size + 1) w' hs hb
  rw [← ok_eq b hb, hvb] at HV0
  have HV := Go.Lib.hid HV0
  clear HV0
  clear hva hvb
  clear ha hb
  have hB : Hid (Below w.heap.size w ((w.alloc (.cells (vrow 266 a.at) 33)).alloc (.cells (vrow 266 b.at) 33))) := (((Below.refl w.heap.size w).alloc (by simp <;> omega) _).alloc (by simp <;> omega) _)
  have P : Hid (((w.alloc (.cells (vrow 266 a.at) 33)).alloc (.cells (vrow 266 b.at) 33)).heap[(w.heap.size)]? = some (.cells (vrow 266 a.at) 33)) := heap_past _ _ _ _ (by first | omega | (simp <;> omega)) (heap_at _ _ _ (by simp))
  have R : Hid (((w.alloc (.cells (vrow 266 a.at) 33)).alloc (.cells (vrow 266 b.at) 33)).heap[(w.heap.size + 1)]? = some (.cells (vrow 266 b.at) 33)) := heap_at _ _ _ (by simp)
  go_enter Try.func23, Try.ntmps23
  go_wp2_with (first
    | (go_at_call 54; first | ((with_reducible refine (HA.out _ P.out).mono ?_); rintro e w1 ⟨rfl, hb⟩; replace P := Go.Lib.hid (row_next hb P.out); replace R := Go.Lib.hid (row_next hb R.out); replace hB := Go.Lib.hid (below_next hB.out hb); clear hb ) | ((with_reducible refine (HV.out _ R.out).mono ?_); rintro e w1 ⟨rfl, hb⟩; replace P := Go.Lib.hid (row_next hb P.out); replace R := Go.Lib.hid (row_next hb R.out); replace hB := Go.Lib.hid (below_next hB.out hb); clear hb ))
    | (refine list_at 13 rfl ?_; intro W hW; rw [hW] at hB P R; clear hW; have P' := Go.Lib.hid (cls_row' P.out); have R' := Go.Lib.hid (cls_row' R.out); (repeat (first | go_big_quiet_skip | (refine wpQuiet_load1 22 _ rfl (by first | exact want_n rfl | exact want_g _ _ _ rfl rfl rfl) (w.heap.size) _ rfl 266 a.at _ rw_i8 P'.out (by omega) ?_; (first | rw [Sh.at_0] | rw [Sh.at_1] | rw [Sh.at_dye1 _ _ (3 * (8 * k + j) + i) (by omega) (by omega)]); simp only [Act.put, List.setIfInBounds_toArray, List.set_cons_succ, List.set_cons_zero]) | (refine wpQuiet_loadmid 33 _ rfl (by first | exact want_n rfl | exact want_g _ _ _ rfl rfl rfl) (w.heap.size) _ rfl 266 266 a.at _ rw_sheet size_sheet P'.out (by omega) ?_; rw [sh_row]; simp only [Act.put, List.setIfInBounds_toArray, List.set_cons_succ, List.set_cons_zero]) | (refine wpQuiet_load1 22 _ rfl (by first | exact want_n rfl | exact want_g _ _ _ rfl rfl rfl) (w.heap.size + 1) _ rfl 266 b.at _ rw_i8 R'.out (by omega) ?_; (first | rw [Sh.at_0] | rw [Sh.at_1] | rw [Sh.at_dye1 _ _ (3 * (8 * k + j) + i) (by omega) (by omega)]); simp only [Act.put, List.setIfInBounds_toArray, List.set_cons_succ, List.set_cons_zero]) | (refine wpQuiet_loadmid 33 _ rfl (by first | exact want_n rfl | exact want_g _ _ _ rfl rfl rfl) (w.heap.size + 1) _ rfl 266 266 b.at _ rw_sheet size_sheet R'.out (by omega) ?_; rw [sh_row]; simp only [Act.put, List.setIfInBounds_toArray, List.set_cons_succ, List.set_cons_zero]) | go_big_quiet_step ((go_at_call 54; first | with_reducible exact cls_call _ (fun w hw => HA.out w (row_next hw P.out)) | with_reducible exact cls_call _ (fun w hw => HV.out w (row_next hw R.out)))))); refine wpQuiet_nil ?_; intro Wn hb; replace P := Go.Lib.hid (row_next hb P.out); replace R := Go.Lib.hid (row_next hb R.out); replace hB := Go.Lib.hid (below_next hB.out hb); clear hb P' R'))
  go_ret2
  exact ⟨rfl, hB.out⟩
set_option maxRecDepth 100000 in
set_option maxHeartbeats 1000000 in
theorem specDiffer_nw (a b : Sh) (w : World) (ha : a.fit) (hb : b.fit) (hva : okI a = true) (hvb : okI b = true) (hw : a.wide ≠ b.wide) : Calls Try.prog 23 #[.agg a.row, .agg b.row] w fun e w' => e = .returned (.tuple #[.int .i64 0, .int .i64 4]) ∧ Below w.heap.size w w' := by
  have HA0 := fun w' hs => ok_any a w.heap.size w' hs ha
  rw [← ok_eq a ha, hva] at HA0
  have HA := Go.Lib.hid HA0
  clear HA0
  have HV0 := fun w' hs => ok_any b (w.heap.size + 1) w' hs hb
  rw [← ok_eq b hb, hvb] at HV0
  have HV := Go.Lib.hid HV0
  clear HV0
  have t1 : (a.wide == b.wide) = false := by simpa using hw
  have t3 : (a.wide != b.wide) = true := by simpa using hw
  clear hw
  clear hva hvb
  clear ha hb
  have hB : Hid (Below w.heap.size w ((w.alloc (.cells (vrow 266 a.at) 33)).alloc (.cells (vrow 266 b.at) 33))) := (((Below.refl w.heap.size w).alloc (by simp <;> omega) _).alloc (by simp <;> omega) _)
  have P : Hid (((w.alloc (.cells (vrow 266 a.at) 33)).alloc (.cells (vrow 266 b.at) 33)).heap[(w.heap.size)]? = some (.cells (vrow 266 a.at) 33)) := heap_past _ _ _ _ (by first | omega | (simp <;> omega)) (heap_at _ _ _ (by simp))
  have R : Hid (((w.alloc (.cells (vrow 266 a.at) 33)).alloc (.cells (vrow 266 b.at) 33)).heap[(w.heap.size + 1)]? = some (.cells (vrow 266 b.at) 33)) := heap_at _ _ _ (by simp)
  go_enter Try.func23, Try.ntmps23
  go_wp2_with (first
    | (go_at_call 54; first | ((with_reducible refine (HA.out _ P.out).mono ?_); rintro e w1 ⟨rfl, hb⟩; replace P := Go.Lib.hid (row_next hb P.out); replace R := Go.Lib.hid (row_next hb R.out); replace hB := Go.Lib.hid (below_next hB.out hb); clear hb ) | ((with_reducible refine (HV.out _ R.out).mono ?_); rintro e w1 ⟨rfl, hb⟩; replace P := Go.Lib.hid (row_next hb P.out); replace R := Go.Lib.hid (row_next hb R.out); replace hB := Go.Lib.hid (below_next hB.out hb); clear hb ))
    | (refine list_at 13 rfl ?_; intro W hW; rw [hW] at hB P R; clear hW; have P' := Go.Lib.hid (cls_row' P.out); have R' := Go.Lib.hid (cls_row' R.out); (repeat (first | go_big_quiet_skip | (refine wpQuiet_load1 22 _ rfl (by first | exact want_n rfl | exact want_g _ _ _ rfl rfl rfl) (w.heap.size) _ rfl 266 a.at _ rw_i8 P'.out (by omega) ?_; (first | rw [Sh.at_0] | rw [Sh.at_1] | rw [Sh.at_dye1 _ _ (3 * (8 * k + j) + i) (by omega) (by omega)]); simp only [Act.put, List.setIfInBounds_toArray, List.set_cons_succ, List.set_cons_zero]) | (refine wpQuiet_loadmid 33 _ rfl (by first | exact want_n rfl | exact want_g _ _ _ rfl rfl rfl) (w.heap.size) _ rfl 266 266 a.at _ rw_sheet size_sheet P'.out (by omega) ?_; rw [sh_row]; simp only [Act.put, List.setIfInBounds_toArray, List.set_cons_succ, List.set_cons_zero]) | (refine wpQuiet_load1 22 _ rfl (by first | exact want_n rfl | exact want_g _ _ _ rfl rfl rfl) (w.heap.size + 1) _ rfl 266 b.at _ rw_i8 R'.out (by omega) ?_; (first | rw [Sh.at_0] | rw [Sh.at_1] | rw [Sh.at_dye1 _ _ (3 * (8 * k + j) + i) (by omega) (by omega)]); simp only [Act.put, List.setIfInBounds_toArray, List.set_cons_succ, List.set_cons_zero]) | (refine wpQuiet_loadmid 33 _ rfl (by first | exact want_n rfl | exact want_g _ _ _ rfl rfl rfl) (w.heap.size + 1) _ rfl 266 266 b.at _ rw_sheet size_sheet R'.out (by omega) ?_; rw [sh_row]; simp only [Act.put, List.setIfInBounds_toArray, List.set_cons_succ, List.set_cons_zero]) | go_big_quiet_step ((go_at_call 54; first | with_reducible exact cls_call _ (fun w hw => HA.out w (row_next hw P.out)) | with_reducible exact cls_call _ (fun w hw => HV.out w (row_next hw R.out)))))); refine wpQuiet_nil ?_; intro Wn hb; replace P := Go.Lib.hid (row_next hb P.out); replace R := Go.Lib.hid (row_next hb R.out); replace hB := Go.Lib.hid (below_next hB.out hb); clear hb P' R'))
  go_ret2
  exact ⟨rfl, hB.out⟩
set_option maxRecDepth 100000 in
set_option maxHeartbeats 1000000 in
theorem specDiffer_nh (a b : Sh) (w : World) (ha : a.fit) (hb : b.fit) (hva : okI a = true) (hvb : okI b = true) (hw : a.wide = b.wide) (hh : a.high ≠ b.high) : Calls Try.prog 23 #[.agg a.row, .agg b.row] w fun e w' => e = .returned (.tuple #[.int .i64 0, .int .i64 4]) ∧ Below w.heap.size w w' := by
  have HA0 := fun w' hs => ok_any a w.heap.size w' hs ha
  rw [← ok_eq a ha, hva] at HA0
  have HA := Go.Lib.hid HA0
  clear HA0
  have HV0 := fun w' hs => ok_any b (w.heap.size + 1) w' hs hb
  rw [← ok_eq b hb, hvb] at HV0
  have HV := Go.Lib.hid HV0
  clear HV0
  clear hva hvb
  have t1 : (a.wide == b.wide) = true := by simpa using hw
  have t2 : (a.high == b.high) = false := by simpa using hh
  have t3 : (a.wide != b.wide) = false := by simpa using hw
  have t4 : (a.high != b.high) = true := by simpa using hh
  clear hw hh
  clear ha hb
  have hB : Hid (Below w.heap.size w ((w.alloc (.cells (vrow 266 a.at) 33)).alloc (.cells (vrow 266 b.at) 33))) := (((Below.refl w.heap.size w).alloc (by simp <;> omega) _).alloc (by simp <;> omega) _)
  have P : Hid (((w.alloc (.cells (vrow 266 a.at) 33)).alloc (.cells (vrow 266 b.at) 33)).heap[(w.heap.size)]? = some (.cells (vrow 266 a.at) 33)) := heap_past _ _ _ _ (by first | omega | (simp <;> omega)) (heap_at _ _ _ (by simp))
  have R : Hid (((w.alloc (.cells (vrow 266 a.at) 33)).alloc (.cells (vrow 266 b.at) 33)).heap[(w.heap.size + 1)]? = some (.cells (vrow 266 b.at) 33)) := heap_at _ _ _ (by simp)
  go_enter Try.func23, Try.ntmps23
  go_wp2_with (first
    | (go_at_call 54; first | ((with_reducible refine (HA.out _ P.out).mono ?_); rintro e w1 ⟨rfl, hb⟩; replace P := Go.Lib.hid (row_next hb P.out); replace R := Go.Lib.hid (row_next hb R.out); replace hB := Go.Lib.hid (below_next hB.out hb); clear hb ) | ((with_reducible refine (HV.out _ R.out).mono ?_); rintro e w1 ⟨rfl, hb⟩; replace P := Go.Lib.hid (row_next hb P.out); replace R := Go.Lib.hid (row_next hb R.out); replace hB := Go.Lib.hid (below_next hB.out hb); clear hb ))
    | (refine list_at 13 rfl ?_; intro W hW; rw [hW] at hB P R; clear hW; have P' := Go.Lib.hid (cls_row' P.out); have R' := Go.Lib.hid (cls_row' R.out); (repeat (first | go_big_quiet_skip | (refine wpQuiet_load1 22 _ rfl (by first | exact want_n rfl | exact want_g _ _ _ rfl rfl rfl) (w.heap.size) _ rfl 266 a.at _ rw_i8 P'.out (by omega) ?_; (first | rw [Sh.at_0] | rw [Sh.at_1] | rw [Sh.at_dye1 _ _ (3 * (8 * k + j) + i) (by omega) (by omega)]); simp only [Act.put, List.setIfInBounds_toArray, List.set_cons_succ, List.set_cons_zero]) | (refine wpQuiet_loadmid 33 _ rfl (by first | exact want_n rfl | exact want_g _ _ _ rfl rfl rfl) (w.heap.size) _ rfl 266 266 a.at _ rw_sheet size_sheet P'.out (by omega) ?_; rw [sh_row]; simp only [Act.put, List.setIfInBounds_toArray, List.set_cons_succ, List.set_cons_zero]) | (refine wpQuiet_load1 22 _ rfl (by first | exact want_n rfl | exact want_g _ _ _ rfl rfl rfl) (w.heap.size + 1) _ rfl 266 b.at _ rw_i8 R'.out (by omega) ?_; (first | rw [Sh.at_0] | rw [Sh.at_1] | rw [Sh.at_dye1 _ _ (3 * (8 * k + j) + i) (by omega) (by omega)]); simp only [Act.put, List.setIfInBounds_toArray, List.set_cons_succ, List.set_cons_zero]) | (refine wpQuiet_loadmid 33 _ rfl (by first | exact want_n rfl | exact want_g _ _ _ rfl rfl rfl) (w.heap.size + 1) _ rfl 266 266 b.at _ rw_sheet size_sheet R'.out (by omega) ?_; rw [sh_row]; simp only [Act.put, List.setIfInBounds_toArray, List.set_cons_succ, List.set_cons_zero]) | go_big_quiet_step ((go_at_call 54; first | with_reducible exact cls_call _ (fun w hw => HA.out w (row_next hw P.out)) | with_reducible exact cls_call _ (fun w hw => HV.out w (row_next hw R.out)))))); refine wpQuiet_nil ?_; intro Wn hb; replace P := Go.Lib.hid (row_next hb P.out); replace R := Go.Lib.hid (row_next hb R.out); replace hB := Go.Lib.hid (below_next hB.out hb); clear hb P' R'))
  go_ret2
  exact ⟨rfl, hB.out⟩
set_option maxRecDepth 100000 in
set_option maxHeartbeats 1000000 in
theorem specDiffer_ok (a b : Sh) (w : World) (ha : a.fit) (hb : b.fit) (hva : okI a = true) (hvb : okI b = true) (hw : a.wide = b.wide) (hh : a.high = b.high) : Calls Try.prog 23 #[.agg a.row, .agg b.row] w fun e w' => e = .returned (.tuple #[.int .i64 (wsum (dif a b) 64), .int .i64 0]) ∧ Below w.heap.size w w' := by
  have HA0 := fun w' hs => ok_any a w.heap.size w' hs ha
  rw [← ok_eq a ha, hva] at HA0
  have HA := Go.Lib.hid HA0
  clear HA0
  have HV0 := fun w' hs => ok_any b (w.heap.size + 1) w' hs hb
  rw [← ok_eq b hb, hvb] at HV0
  have HV := Go.Lib.hid HV0
  clear HV0
  have HD := Go.Lib.hid fun w' h1 h2 => ldiffer_any a b w.heap.size (w.heap.size + 1) w' h1 h2 ha hb
  clear hva hvb
  have t1 : (a.wide == b.wide) = true := by simpa using hw
  have t2 : (a.high == b.high) = true := by simpa using hh
  have t3 : (a.wide != b.wide) = false := by simpa using hw
  have t4 : (a.high != b.high) = false := by simpa using hh
  clear hw hh
  clear ha hb
  have hB : Hid (Below w.heap.size w ((w.alloc (.cells (vrow 266 a.at) 33)).alloc (.cells (vrow 266 b.at) 33))) := (((Below.refl w.heap.size w).alloc (by simp <;> omega) _).alloc (by simp <;> omega) _)
  have P : Hid (((w.alloc (.cells (vrow 266 a.at) 33)).alloc (.cells (vrow 266 b.at) 33)).heap[(w.heap.size)]? = some (.cells (vrow 266 a.at) 33)) := heap_past _ _ _ _ (by first | omega | (simp <;> omega)) (heap_at _ _ _ (by simp))
  have R : Hid (((w.alloc (.cells (vrow 266 a.at) 33)).alloc (.cells (vrow 266 b.at) 33)).heap[(w.heap.size + 1)]? = some (.cells (vrow 266 b.at) 33)) := heap_at _ _ _ (by simp)
  go_enter Try.func23, Try.ntmps23
  go_wp2_with (first
    | (go_at_call 54; first | ((with_reducible refine (HA.out _ P.out).mono ?_); rintro e w1 ⟨rfl, hb⟩; replace P := Go.Lib.hid (row_next hb P.out); replace R := Go.Lib.hid (row_next hb R.out); replace hB := Go.Lib.hid (below_next hB.out hb); clear hb ) | ((with_reducible refine (HV.out _ R.out).mono ?_); rintro e w1 ⟨rfl, hb⟩; replace P := Go.Lib.hid (row_next hb P.out); replace R := Go.Lib.hid (row_next hb R.out); replace hB := Go.Lib.hid (below_next hB.out hb); clear hb ))
    | (go_at_call 65; (refine (HD.out _ P.out R.out).mono ?_; rintro e w1 ⟨rfl, hb⟩; replace P := Go.Lib.hid (row_next hb P.out); replace R := Go.Lib.hid (row_next hb R.out); replace hB := Go.Lib.hid (below_next hB.out hb); clear hb ))
    | (refine list_at 13 rfl ?_; intro W hW; rw [hW] at hB P R; clear hW; have P' := Go.Lib.hid (cls_row' P.out); have R' := Go.Lib.hid (cls_row' R.out); (repeat (first | go_big_quiet_skip | (refine wpQuiet_load1 22 _ rfl (by first | exact want_n rfl | exact want_g _ _ _ rfl rfl rfl) (w.heap.size) _ rfl 266 a.at _ rw_i8 P'.out (by omega) ?_; (first | rw [Sh.at_0] | rw [Sh.at_1] | rw [Sh.at_dye1 _ _ (3 * (8 * k + j) + i) (by omega) (by omega)]); simp only [Act.put, List.setIfInBounds_toArray, List.set_cons_succ, List.set_cons_zero]) | (refine wpQuiet_loadmid 33 _ rfl (by first | exact want_n rfl | exact want_g _ _ _ rfl rfl rfl) (w.heap.size) _ rfl 266 266 a.at _ rw_sheet size_sheet P'.out (by omega) ?_; rw [sh_row]; simp only [Act.put, List.setIfInBounds_toArray, List.set_cons_succ, List.set_cons_zero]) | (refine wpQuiet_load1 22 _ rfl (by first | exact want_n rfl | exact want_g _ _ _ rfl rfl rfl) (w.heap.size + 1) _ rfl 266 b.at _ rw_i8 R'.out (by omega) ?_; (first | rw [Sh.at_0] | rw [Sh.at_1] | rw [Sh.at_dye1 _ _ (3 * (8 * k + j) + i) (by omega) (by omega)]); simp only [Act.put, List.setIfInBounds_toArray, List.set_cons_succ, List.set_cons_zero]) | (refine wpQuiet_loadmid 33 _ rfl (by first | exact want_n rfl | exact want_g _ _ _ rfl rfl rfl) (w.heap.size + 1) _ rfl 266 266 b.at _ rw_sheet size_sheet R'.out (by omega) ?_; rw [sh_row]; simp only [Act.put, List.setIfInBounds_toArray, List.set_cons_succ, List.set_cons_zero]) | go_big_quiet_step (first | (go_at_call 54; first | with_reducible exact cls_call _ (fun w hw => HA.out w (row_next hw P.out)) | with_reducible exact cls_call _ (fun w hw => HV.out w (row_next hw R.out))) | (go_at_call 65; exact cls_call _ (fun w hw => HD.out w (row_next hw P.out) (row_next hw R.out)))))); refine wpQuiet_nil ?_; intro Wn hb; replace P := Go.Lib.hid (row_next hb P.out); replace R := Go.Lib.hid (row_next hb R.out); replace hB := Go.Lib.hid (below_next hB.out hb); clear hb P' R'))
  go_ret2
  exact ⟨rfl, hB.out⟩
end Go.Proofs.Ytianedkknlggmaa
