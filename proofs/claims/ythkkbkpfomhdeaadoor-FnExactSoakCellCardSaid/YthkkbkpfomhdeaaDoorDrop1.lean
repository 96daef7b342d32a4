import Derived.Test.YthkkbkpfomhdeaaDoorDye
import Derived.Test.YthkkbkpfomhdeaaDoorWax1
namespace Go.Proofs.YthkkbkpfomhdeaaDoor
open Go.RowKit
set_option maxRecDepth 100000
set_option linter.unusedVariables false
def amtB (n : Int) : Bool := decide (0 ≤ n) && decide (n ≤ 1000)
def watB (n : Int) : Bool := decide (0 ≤ n) && decide (n ≤ 200)
def fineB (k n m : Int) : Bool := inkB k && (amtB n && watB m)
theorem lin_amt (n : Int) (w : World) : Calls Tryd.prog 46 #[.int .i64 n, .int .i64 0, .int .i64 1000] w fun e w' => e = .returned (.bool (amtB n)) ∧ Below w.heap.size w w' := by
  by_cases h : 0 ≤ n ∧ n ≤ 1000
  · rw [show amtB n = true by simp [amtB]; omega]; exact in_yes _ _ _ (by omega) (by omega) w
  · rw [show amtB n = false by simp [amtB]; omega]; exact in_no _ _ _ (by omega) w
theorem lin_wat (n : Int) (w : World) : Calls Tryd.prog 46 #[.int .i64 n, .int .i64 0, .int .i64 200] w fun e w' => e = .returned (.bool (watB n)) ∧ Below w.heap.size w w' := by
  by_cases h : 0 ≤ n ∧ n ≤ 200
  · rw [show watB n = true by simp [watB]; omega]; exact in_yes _ _ _ (by omega) (by omega) w
  · rw [show watB n = false by simp [watB]; omega]; exact in_no _ _ _ (by omega) w
def Sh.setDye (s : Sh) (j : Nat) (v : Int) : Sh := { s with dye := fun i => if i = j then v else s.dye i }
def Sh.setWet (s : Sh) (j : Nat) (v : Int) : Sh := { s with wet := fun i => if i = j then v else s.wet i }
theorem dye_at (s : Sh) (o j : Nat) (ho : o = 66 + j) (hj : j < 192) (v : Int) : vrow 266 (over s.at o 1 fun _ => .int .i16 v) = vrow 266 (s.setDye j v).at := vrow_ext _ _ _ fun i hi => by
  subst ho
  unfold over Sh.at Sh.setDye
  by_cases h : 66 + j ≤ i ∧ i < 66 + j + 1
  · have h0 : ¬ i = 0 := by omega
    have h1 : ¬ i = 1 := by omega
    have h2 : ¬ i < 66 := by omega
    have h3 : i < 258 := by omega
    have h4 : i - 66 = j := by omega
    simp [h, h0, h1, h2, h3, h4]
  · rw [if_neg h]
    by_cases h0 : i = 0
    · simp [h0]
    · by_cases h1 : i = 1
      · simp [h1]
      · by_cases h2 : i < 66
        · simp [h0, h1, h2]
        · by_cases h3 : i < 258
          · have h4 : ¬ i - 66 = j := by omega
            simp [h0, h1, h2, h3, h4]
          · simp [h0, h1, h2, h3]
theorem wet_at (s : Sh) (o j : Nat) (ho : o = 2 + j) (hj : j < 64) (v : Int) : vrow 266 (over s.at o 1 fun _ => .int .i16 v) = vrow 266 (s.setWet j v).at := vrow_ext _ _ _ fun i hi => by
  subst ho
  unfold over Sh.at Sh.setWet
  by_cases h : 2 + j ≤ i ∧ i < 2 + j + 1
  · have h0 : ¬ i = 0 := by omega
    have h1 : ¬ i = 1 := by omega
    have h2 : i < 66 := by omega
    have h4 : i - 2 = j := by omega
    simp [h, h0, h1, h2, h4]
  · rw [if_neg h]
    by_cases h0 : i = 0
    · simp [h0]
    · by_cases h1 : i = 1
      · simp [h1]
      · by_cases h2 : i < 66
        · have h4 : ¬ i - 2 = j := by omega
          simp [h0, h1, h2, h4]
        · by_cases h3 : i < 258
          · simp [h0, h1, h2, h3]
          · simp [h0, h1, h2, h3]
theorem setDye_wet (s : Sh) (j : Nat) (v : Int) (i : Nat) : (s.setDye j v).wet i = s.wet i := rfl
set_option maxHeartbeats 400000 in
theorem amounts_bad (s : Sh) (x y k n m : Int) (hv : okI s = false) (e : ErrE) (w : World) (hE : Errs e w) (hf : s.fit := by assumption) : Calls Tryd.prog 134 #[.agg s.row, .agg #[.int .i8 x, .int .i8 y], .int .i64 k, .int .i64 n, .int .i64 m] w fun o w' => o = .returned (errP e 1) ∧ Below w.heap.size w w' := by
  rw [sp_vrow]
  have hB : Hid (Below w.heap.size w ((w.alloc (.cells (vrow 266 s.at) 47)).alloc (.cells (vrow 2 (spAt x y)) 51))) := (((Below.refl w.heap.size w).alloc (by simp <;> omega) _).alloc (by simp <;> omega) _)
  have P : Hid (((w.alloc (.cells (vrow 266 s.at) 47)).alloc (.cells (vrow 2 (spAt x y)) 51)).heap[(w.heap.size)]? = some (.cells (vrow 266 s.at) 47)) := heap_past _ _ _ _ (by first | omega | (simp <;> omega)) (heap_at _ _ _ (by simp))
  have R : Hid (((w.alloc (.cells (vrow 266 s.at) 47)).alloc (.cells (vrow 2 (spAt x y)) 51)).heap[(w.heap.size + 1)]? = some (.cells (vrow 2 (spAt x y)) 51)) := heap_at _ _ _ (by simp)
  have E : Hid (Errs e ((w.alloc (.cells (vrow 266 s.at) 47)).alloc (.cells (vrow 2 (spAt x y)) 51))) := ((hE).alloc _).alloc _
  go_enter Tryd.func134, Tryd.ntmps134
  go_wp2_with (first
    | (refine wpList_ld1 90 _ rfl (by first | exact want_n rfl | exact want_g _ _ _ rfl rfl rfl) 1 0 rfl 1 (fun _ => errP e 1) _ rw_err E.out.v1 (by omega) ?_)
    | (refine wpList_ld1 90 _ rfl (by first | exact want_n rfl | exact want_g _ _ _ rfl rfl rfl) 0 0 rfl 1 (fun _ => errP e 2) _ rw_err E.out.v2 (by omega) ?_)
    | (refine wpList_ld1 90 _ rfl (by first | exact want_n rfl | exact want_g _ _ _ rfl rfl rfl) 2 0 rfl 1 (fun _ => errP e 3) _ rw_err E.out.v3 (by omega) ?_)
    | (refine wpList_ld1 90 _ rfl (by first | exact want_n rfl | exact want_g _ _ _ rfl rfl rfl) 3 0 rfl 1 (fun _ => errP e 4) _ rw_err E.out.v4 (by omega) ?_)
    | (refine wpList_ld1 90 _ rfl (by first | exact want_n rfl | exact want_g _ _ _ rfl rfl rfl) 4 0 rfl 1 (fun _ => errP e 5) _ rw_err E.out.v5 (by omega) ?_)
    | (refine wpList_ld1 90 _ rfl (by first | exact want_n rfl | exact want_g _ _ _ rfl rfl rfl) 5 0 rfl 1 (fun _ => errP e 7) _ rw_err E.out.v7 (by omega) ?_)
    | (go_at_call 150; (refine (checkInk_bad s x y k hv e _ E.out).mono ?_; rintro e w1 ⟨rfl, hb⟩; replace P := Go.Lib.hid (row_next hb P.out); replace R := Go.Lib.hid (row_next hb R.out); replace hB := Go.Lib.hid (below_next hB.out hb); replace E := Go.Lib.hid (E.out.next hb); clear hb ))
    | (refine list_at 12 rfl ?_; intro W hW; rw [hW] at hB E P R; clear hW; have P' := Go.Lib.hid (cls_row' P.out); have R' := Go.Lib.hid (cls_row' R.out); (repeat (first | go_big_quiet_skip | (refine wpQuiet_loadmid 47 _ rfl (by first | exact want_n rfl | exact want_g _ _ _ rfl rfl rfl) (w.heap.size) _ rfl 266 266 s.at _ rw_sheet size_sheet P'.out (by omega) ?_; rw [sh_row]; simp only [Act.put, List.setIfInBounds_toArray, List.set_cons_succ, List.set_cons_zero]) | (refine wpQuiet_loadmid 51 _ rfl (by first | exact want_n rfl | exact want_g _ _ _ rfl rfl rfl) (w.heap.size + 1) _ rfl 2 2 (spAt x y) _ rw_spot size_spot R'.out (by omega) ?_; rw [sp_row]; simp only [Act.put, List.setIfInBounds_toArray, List.set_cons_succ, List.set_cons_zero]) | go_big_quiet_step ((go_at_call 150; exact cls_call _ (fun w hw => checkInk_bad s x y k hv e w (E.out.next hw)))))); refine wpQuiet_nil ?_; intro Wn hb; replace P := Go.Lib.hid (row_next hb P.out); replace R := Go.Lib.hid (row_next hb R.out); replace hB := Go.Lib.hid (below_next hB.out hb); replace E := Go.Lib.hid (E.out.next hb); clear hb P' R'))
  go_ret
  exact ⟨rfl, hB.out⟩
set_option maxHeartbeats 400000 in
theorem amounts_no (s : Sh) (x y k n m : Int) (hv : okI s = true) (hh : hasB s x y = false) (e : ErrE) (w : World) (hE : Errs e w) : Calls Tryd.prog 134 #[.agg s.row, .agg #[.int .i8 x, .int .i8 y], .int .i64 k, .int .i64 n, .int .i64 m] w fun o w' => o = .returned (errP e 2) ∧ Below w.heap.size w w' := by
  rw [sp_vrow]
  have hB : Hid (Below w.heap.size w ((w.alloc (.cells (vrow 266 s.at) 47)).alloc (.cells (vrow 2 (spAt x y)) 51))) := (((Below.refl w.heap.size w).alloc (by simp <;> omega) _).alloc (by simp <;> omega) _)
  have P : Hid (((w.alloc (.cells (vrow 266 s.at) 47)).alloc (.cells (vrow 2 (spAt x y)) 51)).heap[(w.heap.size)]? = some (.cells (vrow 266 s.at) 47)) := heap_past _ _ _ _ (by first | omega | (simp <;> omega)) (heap_at _ _ _ (by simp))
  have R : Hid (((w.alloc (.cells (vrow 266 s.at) 47)).alloc (.cells (vrow 2 (spAt x y)) 51)).heap[(w.heap.size + 1)]? = some (.cells (vrow 2 (spAt x y)) 51)) := heap_at _ _ _ (by simp)
  have E : Hid (Errs e ((w.alloc (.cells (vrow 266 s.at) 47)).alloc (.cells (vrow 2 (spAt x y)) 51))) := ((hE).alloc _).alloc _
  go_enter Tryd.func134, Tryd.ntmps134
  go_wp2_with (first
    | (refine wpList_ld1 90 _ rfl (by first | exact want_n rfl | exact want_g _ _ _ rfl rfl rfl) 1 0 rfl 1 (fun _ => errP e 1) _ rw_err E.out.v1 (by omega) ?_)
    | (refine wpList_ld1 90 _ rfl (by first | exact want_n rfl | exact want_g _ _ _ rfl rfl rfl) 0 0 rfl 1 (fun _ => errP e 2) _ rw_err E.out.v2 (by omega) ?_)
    | (refine wpList_ld1 90 _ rfl (by first | exact want_n rfl | exact want_g _ _ _ rfl rfl rfl) 2 0 rfl 1 (fun _ => errP e 3) _ rw_err E.out.v3 (by omega) ?_)
    | (refine wpList_ld1 90 _ rfl (by first | exact want_n rfl | exact want_g _ _ _ rfl rfl rfl) 3 0 rfl 1 (fun _ => errP e 4) _ rw_err E.out.v4 (by omega) ?_)
    | (refine wpList_ld1 90 _ rfl (by first | exact want_n rfl | exact want_g _ _ _ rfl rfl rfl) 4 0 rfl 1 (fun _ => errP e 5) _ rw_err E.out.v5 (by omega) ?_)
    | (refine wpList_ld1 90 _ rfl (by first | exact want_n rfl | exact want_g _ _ _ rfl rfl rfl) 5 0 rfl 1 (fun _ => errP e 7) _ rw_err E.out.v7 (by omega) ?_)
    | (go_at_call 150; (refine (checkInk_no s x y k hv hh e _ E.out).mono ?_; rintro e w1 ⟨rfl, hb⟩; replace P := Go.Lib.hid (row_next hb P.out); replace R := Go.Lib.hid (row_next hb R.out); replace hB := Go.Lib.hid (below_next hB.out hb); replace E := Go.Lib.hid (E.out.next hb); clear hb ))
    | (refine list_at 12 rfl ?_; intro W hW; rw [hW] at hB E P R; clear hW; have P' := Go.Lib.hid (cls_row' P.out); have R' := Go.Lib.hid (cls_row' R.out); (repeat (first | go_big_quiet_skip | (refine wpQuiet_loadmid 47 _ rfl (by first | exact want_n rfl | exact want_g _ _ _ rfl rfl rfl) (w.heap.size) _ rfl 266 266 s.at _ rw_sheet size_sheet P'.out (by omega) ?_; rw [sh_row]; simp only [Act.put, List.setIfInBounds_toArray, List.set_cons_succ, List.set_cons_zero]) | (refine wpQuiet_loadmid 51 _ rfl (by first | exact want_n rfl | exact want_g _ _ _ rfl rfl rfl) (w.heap.size + 1) _ rfl 2 2 (spAt x y) _ rw_spot size_spot R'.out (by omega) ?_; rw [sp_row]; simp only [Act.put, List.setIfInBounds_toArray, List.set_cons_succ, List.set_cons_zero]) | go_big_quiet_step ((go_at_call 150; exact cls_call _ (fun w hw => checkInk_no s x y k hv hh e w (E.out.next hw)))))); refine wpQuiet_nil ?_; intro Wn hb; replace P := Go.Lib.hid (row_next hb P.out); replace R := Go.Lib.hid (row_next hb R.out); replace hB := Go.Lib.hid (below_next hB.out hb); replace E := Go.Lib.hid (E.out.next hb); clear hb P' R'))
  go_ret
  exact ⟨rfl, hB.out⟩
set_option maxHeartbeats 400000 in
theorem amounts_un0 (s : Sh) (x y k n m : Int) (hv : okI s = true) (hh : hasB s x y = true) (hk : inkB k = false) (e : ErrE) (w : World) (hE : Errs e w) : Calls Tryd.prog 134 #[.agg s.row, .agg #[.int .i8 x, .int .i8 y], .int .i64 k, .int .i64 n, .int .i64 m] w fun o w' => o = .returned (errP e 2) ∧ Below w.heap.size w w' := by
  rw [sp_vrow]
  have hB : Hid (Below w.heap.size w ((w.alloc (.cells (vrow 266 s.at) 47)).alloc (.cells (vrow 2 (spAt x y)) 51))) := (((Below.refl w.heap.size w).alloc (by simp <;> omega) _).alloc (by simp <;> omega) _)
  have P : Hid (((w.alloc (.cells (vrow 266 s.at) 47)).alloc (.cells (vrow 2 (spAt x y)) 51)).heap[(w.heap.size)]? = some (.cells (vrow 266 s.at) 47)) := heap_past _ _ _ _ (by first | omega | (simp <;> omega)) (heap_at _ _ _ (by simp))
  have R : Hid (((w.alloc (.cells (vrow 266 s.at) 47)).alloc (.cells (vrow 2 (spAt x y)) 51)).heap[(w.heap.size + 1)]? = some (.cells (vrow 2 (spAt x y)) 51)) := heap_at _ _ _ (by simp)
  have E : Hid (Errs e ((w.alloc (.cells (vrow 266 s.at) 47)).alloc (.cells (vrow 2 (spAt x y)) 51))) := ((hE).alloc _).alloc _
  go_enter Tryd.func134, Tryd.ntmps134
  go_wp2_with (first
    | (refine wpList_ld1 90 _ rfl (by first | exact want_n rfl | exact want_g _ _ _ rfl rfl rfl) 1 0 rfl 1 (fun _ => errP e 1) _ rw_err E.out.v1 (by omega) ?_)
    | (refine wpList_ld1 90 _ rfl (by first | exact want_n rfl | exact want_g _ _ _ rfl rfl rfl) 0 0 rfl 1 (fun _ => errP e 2) _ rw_err E.out.v2 (by omega) ?_)
    | (refine wpList_ld1 90 _ rfl (by first | exact want_n rfl | exact want_g _ _ _ rfl rfl rfl) 2 0 rfl 1 (fun _ => errP e 3) _ rw_err E.out.v3 (by omega) ?_)
    | (refine wpList_ld1 90 _ rfl (by first | exact want_n rfl | exact want_g _ _ _ rfl rfl rfl) 3 0 rfl 1 (fun _ => errP e 4) _ rw_err E.out.v4 (by omega) ?_)
    | (refine wpList_ld1 90 _ rfl (by first | exact want_n rfl | exact want_g _ _ _ rfl rfl rfl) 4 0 rfl 1 (fun _ => errP e 5) _ rw_err E.out.v5 (by omega) ?_)
    | (refine wpList_ld1 90 _ rfl (by first | exact want_n rfl | exact want_g _ _ _ rfl rfl rfl) 5 0 rfl 1 (fun _ => errP e 7) _ rw_err E.out.v7 (by omega) ?_)
    | (go_at_call 150; (refine (checkInk_un s x y k hv hh hk e _ E.out).mono ?_; rintro e w1 ⟨rfl, hb⟩; replace P := Go.Lib.hid (row_next hb P.out); replace R := Go.Lib.hid (row_next hb R.out); replace hB := Go.Lib.hid (below_next hB.out hb); replace E := Go.Lib.hid (E.out.next hb); clear hb ))
    | (refine list_at 12 rfl ?_; intro W hW; rw [hW] at hB E P R; clear hW; have P' := Go.Lib.hid (cls_row' P.out); have R' := Go.Lib.hid (cls_row' R.out); (repeat (first | go_big_quiet_skip | (refine wpQuiet_loadmid 47 _ rfl (by first | exact want_n rfl | exact want_g _ _ _ rfl rfl rfl) (w.heap.size) _ rfl 266 266 s.at _ rw_sheet size_sheet P'.out (by omega) ?_; rw [sh_row]; simp only [Act.put, List.setIfInBounds_toArray, List.set_cons_succ, List.set_cons_zero]) | (refine wpQuiet_loadmid 51 _ rfl (by first | exact want_n rfl | exact want_g _ _ _ rfl rfl rfl) (w.heap.size + 1) _ rfl 2 2 (spAt x y) _ rw_spot size_spot R'.out (by omega) ?_; rw [sp_row]; simp only [Act.put, List.setIfInBounds_toArray, List.set_cons_succ, List.set_cons_zero]) | go_big_quiet_step ((go_at_call 150; exact cls_call _ (fun w hw => checkInk_un s x y k hv hh hk e w (E.out.next hw)))))); refine wpQuiet_nil ?_; intro Wn hb; replace P := Go.Lib.hid (row_next hb P.out); replace R := Go.Lib.hid (row_next hb R.out); replace hB := Go.Lib.hid (below_next hB.out hb); replace E := Go.Lib.hid (E.out.next hb); clear hb P' R'))
  go_ret
  exact ⟨rfl, hB.out⟩
set_option maxHeartbeats 400000 in
theorem amounts_un1 (s : Sh) (x y k n m : Int) (hv : okI s = true) (hh : hasB s x y = true) (hk : inkB k = true) (h : n < 0) (e : ErrE) (w : World) (hE : Errs e w) : Calls Tryd.prog 134 #[.agg s.row, .agg #[.int .i8 x, .int .i8 y], .int .i64 k, .int .i64 n, .int .i64 m] w fun o w' => o = .returned (errP e 2) ∧ Below w.heap.size w w' := by
  have t0 : decide (n < 0) = true := by simp; omega
  clear h
  rw [sp_vrow]
  have hB : Hid (Below w.heap.size w ((w.alloc (.cells (vrow 266 s.at) 47)).alloc (.cells (vrow 2 (spAt x y)) 51))) := (((Below.refl w.heap.size w).alloc (by simp <;> omega) _).alloc (by simp <;> omega) _)
  have P : Hid (((w.alloc (.cells (vrow 266 s.at) 47)).alloc (.cells (vrow 2 (spAt x y)) 51)).heap[(w.heap.size)]? = some (.cells (vrow 266 s.at) 47)) := heap_past _ _ _ _ (by first | omega | (simp <;> omega)) (heap_at _ _ _ (by simp))
  have R : Hid (((w.alloc (.cells (vrow 266 s.at) 47)).alloc (.cells (vrow 2 (spAt x y)) 51)).heap[(w.heap.size + 1)]? = some (.cells (vrow 2 (spAt x y)) 51)) := heap_at _ _ _ (by simp)
  have E : Hid (Errs e ((w.alloc (.cells (vrow 266 s.at) 47)).alloc (.cells (vrow 2 (spAt x y)) 51))) := ((hE).alloc _).alloc _
  go_enter Tryd.func134, Tryd.ntmps134
  go_wp2_with (first
    | (refine wpList_ld1 90 _ rfl (by first | exact want_n rfl | exact want_g _ _ _ rfl rfl rfl) 1 0 rfl 1 (fun _ => errP e 1) _ rw_err E.out.v1 (by omega) ?_)
    | (refine wpList_ld1 90 _ rfl (by first | exact want_n rfl | exact want_g _ _ _ rfl rfl rfl) 0 0 rfl 1 (fun _ => errP e 2) _ rw_err E.out.v2 (by omega) ?_)
    | (refine wpList_ld1 90 _ rfl (by first | exact want_n rfl | exact want_g _ _ _ rfl rfl rfl) 2 0 rfl 1 (fun _ => errP e 3) _ rw_err E.out.v3 (by omega) ?_)
    | (refine wpList_ld1 90 _ rfl (by first | exact want_n rfl | exact want_g _ _ _ rfl rfl rfl) 3 0 rfl 1 (fun _ => errP e 4) _ rw_err E.out.v4 (by omega) ?_)
    | (refine wpList_ld1 90 _ rfl (by first | exact want_n rfl | exact want_g _ _ _ rfl rfl rfl) 4 0 rfl 1 (fun _ => errP e 5) _ rw_err E.out.v5 (by omega) ?_)
    | (refine wpList_ld1 90 _ rfl (by first | exact want_n rfl | exact want_g _ _ _ rfl rfl rfl) 5 0 rfl 1 (fun _ => errP e 7) _ rw_err E.out.v7 (by omega) ?_)
    | (go_at_call 150; (refine (checkInk_ok s x y k hv hh hk e _ E.out).mono ?_; rintro e w1 ⟨rfl, hb⟩; replace P := Go.Lib.hid (row_next hb P.out); replace R := Go.Lib.hid (row_next hb R.out); replace hB := Go.Lib.hid (below_next hB.out hb); replace E := Go.Lib.hid (E.out.next hb); clear hb ))
    | (refine list_at 12 rfl ?_; intro W hW; rw [hW] at hB E P R; clear hW; have P' := Go.Lib.hid (cls_row' P.out); have R' := Go.Lib.hid (cls_row' R.out); (repeat (first | go_big_quiet_skip | (refine wpQuiet_loadmid 47 _ rfl (by first | exact want_n rfl | exact want_g _ _ _ rfl rfl rfl) (w.heap.size) _ rfl 266 266 s.at _ rw_sheet size_sheet P'.out (by omega) ?_; rw [sh_row]; simp only [Act.put, List.setIfInBounds_toArray, List.set_cons_succ, List.set_cons_zero]) | (refine wpQuiet_loadmid 51 _ rfl (by first | exact want_n rfl | exact want_g _ _ _ rfl rfl rfl) (w.heap.size + 1) _ rfl 2 2 (spAt x y) _ rw_spot size_spot R'.out (by omega) ?_; rw [sp_row]; simp only [Act.put, List.setIfInBounds_toArray, List.set_cons_succ, List.set_cons_zero]) | go_big_quiet_step ((go_at_call 150; exact cls_call _ (fun w hw => checkInk_ok s x y k hv hh hk e w (E.out.next hw)))))); refine wpQuiet_nil ?_; intro Wn hb; replace P := Go.Lib.hid (row_next hb P.out); replace R := Go.Lib.hid (row_next hb R.out); replace hB := Go.Lib.hid (below_next hB.out hb); replace E := Go.Lib.hid (E.out.next hb); clear hb P' R'))
  go_ret
  exact ⟨rfl, hB.out⟩
set_option maxHeartbeats 400000 in
theorem amounts_un2 (s : Sh) (x y k n m : Int) (hv : okI s = true) (hh : hasB s x y = true) (hk : inkB k = true) (h1 : ¬ n < 0) (h : 1000 < n) (e : ErrE) (w : World) (hE : Errs e w) : Calls Tryd.prog 134 #[.agg s.row, .agg #[.int .i8 x, .int .i8 y], .int .i64 k, .int .i64 n, .int .i64 m] w fun o w' => o = .returned (errP e 2) ∧ Below w.heap.size w w' := by
  have t0 : decide (n < 0) = false := by simp; omega
  have t1 : decide (1000 < n) = true := by simp; omega
  clear h1 h
  rw [sp_vrow]
  have hB : Hid (Below w.heap.size w ((w.alloc (.cells (vrow 266 s.at) 47)).alloc (.cells (vrow 2 (spAt x y)) 51))) := (((Below.refl w.heap.size w).alloc (by simp <;> omega) _).alloc (by simp <;> omega) _)
  have P : Hid (((w.alloc (.cells (vrow 266 s.at) 47)).alloc (.cells (vrow 2 (spAt x y)) 51)).heap[(w.heap.size)]? = some (.cells (vrow 266 s.at) 47)) := heap_past _ _ _ _ (by first | omega | (simp <;> omega)) (heap_at _ _ _ (by simp))
  have R : Hid (((w.alloc (.cells (vrow 266 s.at) 47)).alloc (.cells (vrow 2 (spAt x y)) 51)).heap[(w.heap.size + 1)]? = some (.cells (vrow 2 (spAt x y)) 51)) := heap_at _ _ _ (by simp)
  have E : Hid (Errs e ((w.alloc (.cells (vrow 266 s.at) 47)).alloc (.cells (vrow 2 (spAt x y)) 51))) := ((hE).alloc _).alloc _
  go_enter Tryd.func134, Tryd.ntmps134
  go_wp2_with (first
    | (refine wpList_ld1 90 _ rfl (by first | exact want_n rfl | exact want_g _ _ _ rfl rfl rfl) 1 0 rfl 1 (fun _ => errP e 1) _ rw_err E.out.v1 (by omega) ?_)
    | (refine wpList_ld1 90 _ rfl (by first | exact want_n rfl | exact want_g _ _ _ rfl rfl rfl) 0 0 rfl 1 (fun _ => errP e 2) _ rw_err E.out.v2 (by omega) ?_)
    | (refine wpList_ld1 90 _ rfl (by first | exact want_n rfl | exact want_g _ _ _ rfl rfl rfl) 2 0 rfl 1 (fun _ => errP e 3) _ rw_err E.out.v3 (by omega) ?_)
    | (refine wpList_ld1 90 _ rfl (by first | exact want_n rfl | exact want_g _ _ _ rfl rfl rfl) 3 0 rfl 1 (fun _ => errP e 4) _ rw_err E.out.v4 (by omega) ?_)
    | (refine wpList_ld1 90 _ rfl (by first | exact want_n rfl | exact want_g _ _ _ rfl rfl rfl) 4 0 rfl 1 (fun _ => errP e 5) _ rw_err E.out.v5 (by omega) ?_)
    | (refine wpList_ld1 90 _ rfl (by first | exact want_n rfl | exact want_g _ _ _ rfl rfl rfl) 5 0 rfl 1 (fun _ => errP e 7) _ rw_err E.out.v7 (by omega) ?_)
    | (go_at_call 150; (refine (checkInk_ok s x y k hv hh hk e _ E.out).mono ?_; rintro e w1 ⟨rfl, hb⟩; replace P := Go.Lib.hid (row_next hb P.out); replace R := Go.Lib.hid (row_next hb R.out); replace hB := Go.Lib.hid (below_next hB.out hb); replace E := Go.Lib.hid (E.out.next hb); clear hb ))
    | (refine list_at 12 rfl ?_; intro W hW; rw [hW] at hB E P R; clear hW; have P' := Go.Lib.hid (cls_row' P.out); have R' := Go.Lib.hid (cls_row' R.out); (repeat (first | go_big_quiet_skip | (refine wpQuiet_loadmid 47 _ rfl (by first | exact want_n rfl | exact want_g _ _ _ rfl rfl rfl) (w.heap.size) _ rfl 266 266 s.at _ rw_sheet size_sheet P'.out (by omega) ?_; rw [sh_row]; simp only [Act.put, List.setIfInBounds_toArray, List.set_cons_succ, List.set_cons_zero]) | (refine wpQuiet_loadmid 51 _ rfl (by first | exact want_n rfl | exact want_g _ _ _ rfl rfl rfl) (w.heap.size + 1) _ rfl 2 2 (spAt x y) _ rw_spot size_spot R'.out (by omega) ?_; rw [sp_row]; simp only [Act.put, List.setIfInBounds_toArray, List.set_cons_succ, List.set_cons_zero]) | go_big_quiet_step ((go_at_call 150; exact cls_call _ (fun w hw => checkInk_ok s x y k hv hh hk e w (E.out.next hw)))))); refine wpQuiet_nil ?_; intro Wn hb; replace P := Go.Lib.hid (row_next hb P.out); replace R := Go.Lib.hid (row_next hb R.out); replace hB := Go.Lib.hid (below_next hB.out hb); replace E := Go.Lib.hid (E.out.next hb); clear hb P' R'))
  go_ret
  exact ⟨rfl, hB.out⟩
set_option maxHeartbeats 400000 in
theorem amounts_un3 (s : Sh) (x y k n m : Int) (hv : okI s = true) (hh : hasB s x y = true) (hk : inkB k = true) (h1 : ¬ n < 0) (h2 : ¬ 1000 < n) (h : m < 0) (e : ErrE) (w : World) (hE : Errs e w) : Calls Tryd.prog 134 #[.agg s.row, .agg #[.int .i8 x, .int .i8 y], .int .i64 k, .int .i64 n, .int .i64 m] w fun o w' => o = .returned (errP e 2) ∧ Below w.heap.size w w' := by
  have t0 : decide (n < 0) = false := by simp; omega
  have t1 : decide (1000 < n) = false := by simp; omega
  have t2 : decide (m < 0) = true := by simp; omega
  clear h1 h2 h
  rw [sp_vrow]
  have hB : Hid (Below w.heap.size w ((w.alloc (.cells (vrow 266 s.at) 47)).alloc (.cells (vrow 2 (spAt x y)) 51))) := (((Below.refl w.heap.size w).alloc (by simp <;> omega) _).alloc (by simp <;> omega) _)
  have P : Hid (((w.alloc (.cells (vrow 266 s.at) 47)).alloc (.cells (vrow 2 (spAt x y)) 51)).heap[(w.heap.size)]? = some (.cells (vrow 266 s.at) 47)) := heap_past _ _ _ _ (by first | omega | (simp <;> omega)) (heap_at _ _ _ (by simp))
  have R : Hid (((w.alloc (.cells (vrow 266 s.at) 47)).alloc (.cells (vrow 2 (spAt x y)) 51)).heap[(w.heap.size + 1)]? = some (.cells (vrow 2 (spAt x y)) 51)) := heap_at _ _ _ (by simp)
  have E : Hid (Errs e ((w.alloc (.cells (vrow 266 s.at) 47)).alloc (.cells (vrow 2 (spAt x y)) 51))) := ((hE).alloc _).alloc _
  go_enter Tryd.func134, Tryd.ntmps134
  go_wp2_with (first
    | (refine wpList_ld1 90 _ rfl (by first | exact want_n rfl | exact want_g _ _ _ rfl rfl rfl) 1 0 rfl 1 (fun _ => errP e 1) _ rw_err E.out.v1 (by omega) ?_)
    | (refine wpList_ld1 90 _ rfl (by first | exact want_n rfl | exact want_g _ _ _ rfl rfl rfl) 0 0 rfl 1 (fun _ => errP e 2) _ rw_err E.out.v2 (by omega) ?_)
    | (refine wpList_ld1 90 _ rfl (by first | exact want_n rfl | exact want_g _ _ _ rfl rfl rfl) 2 0 rfl 1 (fun _ => errP e 3) _ rw_err E.out.v3 (by omega) ?_)
    | (refine wpList_ld1 90 _ rfl (by first | exact want_n rfl | exact want_g _ _ _ rfl rfl rfl) 3 0 rfl 1 (fun _ => errP e 4) _ rw_err E.out.v4 (by omega) ?_)
    | (refine wpList_ld1 90 _ rfl (by first | exact want_n rfl | exact want_g _ _ _ rfl rfl rfl) 4 0 rfl 1 (fun _ => errP e 5) _ rw_err E.out.v5 (by omega) ?_)
    | (refine wpList_ld1 90 _ rfl (by first | exact want_n rfl | exact want_g _ _ _ rfl rfl rfl) 5 0 rfl 1 (fun _ => errP e 7) _ rw_err E.out.v7 (by omega) ?_)
    | (go_at_call 150; (refine (checkInk_ok s x y k hv hh hk e _ E.out).mono ?_; rintro e w1 ⟨rfl, hb⟩; replace P := Go.Lib.hid (row_next hb P.out); replace R := Go.Lib.hid (row_next hb R.out); replace hB := Go.Lib.hid (below_next hB.out hb); replace E := Go.Lib.hid (E.out.next hb); clear hb ))
    | (refine list_at 12 rfl ?_; intro W hW; rw [hW] at hB E P R; clear hW; have P' := Go.Lib.hid (cls_row' P.out); have R' := Go.Lib.hid (cls_row' R.out); (repeat (first | go_big_quiet_skip | (refine wpQuiet_loadmid 47 _ rfl (by first | exact want_n rfl | exact want_g _ _ _ rfl rfl rfl) (w.heap.size) _ rfl 266 266 s.at _ rw_sheet size_sheet P'.out (by omega) ?_; rw [sh_row]; simp only [Act.put, List.setIfInBounds_toArray, List.set_cons_succ, List.set_cons_zero]) | (refine wpQuiet_loadmid 51 _ rfl (by first | exact want_n rfl | exact want_g _ _ _ rfl rfl rfl) (w.heap.size + 1) _ rfl 2 2 (spAt x y) _ rw_spot size_spot R'.out (by omega) ?_; rw [sp_row]; simp only [Act.put, List.setIfInBounds_toArray, List.set_cons_succ, List.set_cons_zero]) | go_big_quiet_step ((go_at_call 150; exact cls_call _ (fun w hw => checkInk_ok s x y k hv hh hk e w (E.out.next hw)))))); refine wpQuiet_nil ?_; intro Wn hb; replace P := Go.Lib.hid (row_next hb P.out); replace R := Go.Lib.hid (row_next hb R.out); replace hB := Go.Lib.hid (below_next hB.out hb); replace E := Go.Lib.hid (E.out.next hb); clear hb P' R'))
  go_ret
  exact ⟨rfl, hB.out⟩
set_option maxHeartbeats 400000 in
theorem amounts_un4 (s : Sh) (x y k n m : Int) (hv : okI s = true) (hh : hasB s x y = true) (hk : inkB k = true) (h1 : ¬ n < 0) (h2 : ¬ 1000 < n) (h3 : ¬ m < 0) (h : 200 < m) (e : ErrE) (w : World) (hE : Errs e w) : Calls Tryd.prog 134 #[.agg s.row, .agg #[.int .i8 x, .int .i8 y], .int .i64 k, .int .i64 n, .int .i64 m] w fun o w' => o = .returned (errP e 2) ∧ Below w.heap.size w w' := by
  have t0 : decide (n < 0) = false := by simp; omega
  have t1 : decide (1000 < n) = false := by simp; omega
  have t2 : decide (m < 0) = false := by simp; omega
  have t3 : decide (200 < m) = true := by simp; omega
  clear h1 h2 h3 h
  rw [sp_vrow]
  have hB : Hid (Below w.heap.size w ((w.alloc (.cells (vrow 266 s.at) 47)).alloc (.cells (vrow 2 (spAt x y)) 51))) := (((Below.refl w.heap.size w).alloc (by simp <;> omega) _).alloc (by simp <;> omega) _)
  have P : Hid (((w.alloc (.cells (vrow 266 s.at) 47)).alloc (.cells (vrow 2 (spAt x y)) 51)).heap[(w.heap.size)]? = some (.cells (vrow 266 s.at) 47)) := heap_past _ _ _ _ (by first | omega | (simp <;> omega)) (heap_at _ _ _ (by simp))
  have R : Hid (((w.alloc (.cells (vrow 266 s.at) 47)).alloc (.cells (vrow 2 (spAt x y)) 51)).heap[(w.heap.size + 1)]? = some (.cells (vrow 2 (spAt x y)) 51)) := heap_at _ _ _ (by simp)
  have E : Hid (Errs e ((w.alloc (.cells (vrow 266 s.at) 47)).alloc (.cells (vrow 2 (spAt x y)) 51))) := ((hE).alloc _).alloc _
  go_enter Tryd.func134, Tryd.ntmps134
  go_wp2_with (first
    | (refine wpList_ld1 90 _ rfl (by first | exact want_n rfl | exact want_g _ _ _ rfl rfl rfl) 1 0 rfl 1 (fun _ => errP e 1) _ rw_err E.out.v1 (by omega) ?_)
    | (refine wpList_ld1 90 _ rfl (by first | exact want_n rfl | exact want_g _ _ _ rfl rfl rfl) 0 0 rfl 1 (fun _ => errP e 2) _ rw_err E.out.v2 (by omega) ?_)
    | (refine wpList_ld1 90 _ rfl (by first | exact want_n rfl | exact want_g _ _ _ rfl rfl rfl) 2 0 rfl 1 (fun _ => errP e 3) _ rw_err E.out.v3 (by omega) ?_)
    | (refine wpList_ld1 90 _ rfl (by first | exact want_n rfl | exact want_g _ _ _ rfl rfl rfl) 3 0 rfl 1 (fun _ => errP e 4) _ rw_err E.out.v4 (by omega) ?_)
    | (refine wpList_ld1 90 _ rfl (by first | exact want_n rfl | exact want_g _ _ _ rfl rfl rfl) 4 0 rfl 1 (fun _ => errP e 5) _ rw_err E.out.v5 (by omega) ?_)
    | (refine wpList_ld1 90 _ rfl (by first | exact want_n rfl | exact want_g _ _ _ rfl rfl rfl) 5 0 rfl 1 (fun _ => errP e 7) _ rw_err E.out.v7 (by omega) ?_)
    | (go_at_call 150; (refine (checkInk_ok s x y k hv hh hk e _ E.out).mono ?_; rintro e w1 ⟨rfl, hb⟩; replace P := Go.Lib.hid (row_next hb P.out); replace R := Go.Lib.hid (row_next hb R.out); replace hB := Go.Lib.hid (below_next hB.out hb); replace E := Go.Lib.hid (E.out.next hb); clear hb ))
    | (refine list_at 12 rfl ?_; intro W hW; rw [hW] at hB E P R; clear hW; have P' := Go.Lib.hid (cls_row' P.out); have R' := Go.Lib.hid (cls_row' R.out); (repeat (first | go_big_quiet_skip | (refine wpQuiet_loadmid 47 _ rfl (by first | exact want_n rfl | exact want_g _ _ _ rfl rfl rfl) (w.heap.size) _ rfl 266 266 s.at _ rw_sheet size_sheet P'.out (by omega) ?_; rw [sh_row]; simp only [Act.put, List.setIfInBounds_toArray, List.set_cons_succ, List.set_cons_zero]) | (refine wpQuiet_loadmid 51 _ rfl (by first | exact want_n rfl | exact want_g _ _ _ rfl rfl rfl) (w.heap.size + 1) _ rfl 2 2 (spAt x y) _ rw_spot size_spot R'.out (by omega) ?_; rw [sp_row]; simp only [Act.put, List.setIfInBounds_toArray, List.set_cons_succ, List.set_cons_zero]) | go_big_quiet_step ((go_at_call 150; exact cls_call _ (fun w hw => checkInk_ok s x y k hv hh hk e w (E.out.next hw)))))); refine wpQuiet_nil ?_; intro Wn hb; replace P := Go.Lib.hid (row_next hb P.out); replace R := Go.Lib.hid (row_next hb R.out); replace hB := Go.Lib.hid (below_next hB.out hb); replace E := Go.Lib.hid (E.out.next hb); clear hb P' R'))
  go_ret
  exact ⟨rfl, hB.out⟩
set_option maxHeartbeats 400000 in
theorem amounts_ok (s : Sh) (x y k n m : Int) (hv : okI s = true) (hh : hasB s x y = true) (hk : inkB k = true) (hn : amtB n = true) (hm : watB m = true) (e : ErrE) (w : World) (hE : Errs e w) : Calls Tryd.prog 134 #[.agg s.row, .agg #[.int .i8 x, .int .i8 y], .int .i64 k, .int .i64 n, .int .i64 m] w fun o w' => o = .returned (.nilIface) ∧ Below w.heap.size w w' := by
  simp only [amtB, watB, Bool.and_eq_true, decide_eq_true_eq] at hn hm
  have t0 : decide (n < 0) = false := by simp; omega
  have t1 : decide (1000 < n) = false := by simp; omega
  have t2 : decide (m < 0) = false := by simp; omega
  have t3 : decide (200 < m) = false := by simp; omega
  clear hn hm
  rw [sp_vrow]
  have hB : Hid (Below w.heap.size w ((w.alloc (.cells (vrow 266 s.at) 47)).alloc (.cells (vrow 2 (spAt x y)) 51))) := (((Below.refl w.heap.size w).alloc (by simp <;> omega) _).alloc (by simp <;> omega) _)
  have P : Hid (((w.alloc (.cells (vrow 266 s.at) 47)).alloc (.cells (vrow 2 (spAt x y)) 51)).heap[(w.heap.size)]? = some (.cells (vrow 266 s.at) 47)) := heap_past _ _ _ _ (by first | omega | (simp <;> omega)) (heap_at _ _ _ (by simp))
  have R : Hid (((w.alloc (.cells (vrow 266 s.at) 47)).alloc (.cells (vrow 2 (spAt x y)) 51)).heap[(w.heap.size + 1)]? = some (.cells (vrow 2 (spAt x y)) 51)) := heap_at _ _ _ (by simp)
  have E : Hid (Errs e ((w.alloc (.cells (vrow 266 s.at) 47)).alloc (.cells (vrow 2 (spAt x y)) 51))) := ((hE).alloc _).alloc _
  go_enter Tryd.func134, Tryd.ntmps134
  go_wp2_with (first
    | (refine wpList_ld1 90 _ rfl (by first | exact want_n rfl | exact want_g _ _ _ rfl rfl rfl) 1 0 rfl 1 (fun _ => errP e 1) _ rw_err E.out.v1 (by omega) ?_)
    | (refine wpList_ld1 90 _ rfl (by first | exact want_n rfl | exact want_g _ _ _ rfl rfl rfl) 0 0 rfl 1 (fun _ => errP e 2) _ rw_err E.out.v2 (by omega) ?_)
    | (refine wpList_ld1 90 _ rfl (by first | exact want_n rfl | exact want_g _ _ _ rfl rfl rfl) 2 0 rfl 1 (fun _ => errP e 3) _ rw_err E.out.v3 (by omega) ?_)
    | (refine wpList_ld1 90 _ rfl (by first | exact want_n rfl | exact want_g _ _ _ rfl rfl rfl) 3 0 rfl 1 (fun _ => errP e 4) _ rw_err E.out.v4 (by omega) ?_)
    | (refine wpList_ld1 90 _ rfl (by first | exact want_n rfl | exact want_g _ _ _ rfl rfl rfl) 4 0 rfl 1 (fun _ => errP e 5) _ rw_err E.out.v5 (by omega) ?_)
    | (refine wpList_ld1 90 _ rfl (by first | exact want_n rfl | exact want_g _ _ _ rfl rfl rfl) 5 0 rfl 1 (fun _ => errP e 7) _ rw_err E.out.v7 (by omega) ?_)
    | (go_at_call 150; (refine (checkInk_ok s x y k hv hh hk e _ E.out).mono ?_; rintro e w1 ⟨rfl, hb⟩; replace P := Go.Lib.hid (row_next hb P.out); replace R := Go.Lib.hid (row_next hb R.out); replace hB := Go.Lib.hid (below_next hB.out hb); replace E := Go.Lib.hid (E.out.next hb); clear hb ))
    | (refine list_at 12 rfl ?_; intro W hW; rw [hW] at hB E P R; clear hW; have P' := Go.Lib.hid (cls_row' P.out); have R' := Go.Lib.hid (cls_row' R.out); (repeat (first | go_big_quiet_skip | (refine wpQuiet_loadmid 47 _ rfl (by first | exact want_n rfl | exact want_g _ _ _ rfl rfl rfl) (w.heap.size) _ rfl 266 266 s.at _ rw_sheet size_sheet P'.out (by omega) ?_; rw [sh_row]; simp only [Act.put, List.setIfInBounds_toArray, List.set_cons_succ, List.set_cons_zero]) | (refine wpQuiet_loadmid 51 _ rfl (by first | exact want_n rfl | exact want_g _ _ _ rfl rfl rfl) (w.heap.size + 1) _ rfl 2 2 (spAt x y) _ rw_spot size_spot R'.out (by omega) ?_; rw [sp_row]; simp only [Act.put, List.setIfInBounds_toArray, List.set_cons_succ, List.set_cons_zero]) | go_big_quiet_step ((go_at_call 150; exact cls_call _ (fun w hw => checkInk_ok s x y k hv hh hk e w (E.out.next hw)))))); refine wpQuiet_nil ?_; intro Wn hb; replace P := Go.Lib.hid (row_next hb P.out); replace R := Go.Lib.hid (row_next hb R.out); replace hB := Go.Lib.hid (below_next hB.out hb); replace E := Go.Lib.hid (E.out.next hb); clear hb P' R'))
  go_ret
  exact ⟨rfl, hB.out⟩
theorem amounts_un (s : Sh) (x y k n m : Int) (hv : okI s = true) (hh : hasB s x y = true) (hfi : fineB k n m = false) (e : ErrE) (w : World) (hE : Errs e w) : Calls Tryd.prog 134 #[.agg s.row, .agg #[.int .i8 x, .int .i8 y], .int .i64 k, .int .i64 n, .int .i64 m] w fun o w' => o = .returned (errP e 2) ∧ Below w.heap.size w w' := by
  cases hk : inkB k
  · exact amounts_un0 s x y k n m hv hh hk e w hE
  · by_cases h0 : n < 0
    · exact amounts_un1 s x y k n m hv hh hk h0 e w hE
    · by_cases h1 : 1000 < n
      · exact amounts_un2 s x y k n m hv hh hk h0 h1 e w hE
      · by_cases h2 : m < 0
        · exact amounts_un3 s x y k n m hv hh hk h0 h1 h2 e w hE
        · refine amounts_un4 s x y k n m hv hh hk h0 h1 h2 ?_ e w hE
          rw [fineB, hk] at hfi
          simp [amtB, watB] at hfi
          omega
theorem fine_parts {k n m : Int} (h : fineB k n m = true) : inkB k = true ∧ amtB n = true ∧ watB m = true := by simpa [fineB] using h
set_option maxHeartbeats 400000 in
theorem drop_bad (s : Sh) (x y k n m : Int) (hv : okI s = false) (e : ErrE) (w : World) (hE : Errs e w) (hf : s.fit := by assumption) : Calls Tryd.prog 101 #[.agg s.row, .agg #[.int .i8 x, .int .i8 y], .int .i64 k, .int .i64 n, .int .i64 m] w fun o w' => o = .returned (errP e 1) ∧ Below w.heap.size w w' := by
  rw [sp_vrow]
  have hB : Hid (Below w.heap.size w ((w.alloc (.cells (vrow 266 s.at) 47)).alloc (.cells (vrow 2 (spAt x y)) 51))) := (((Below.refl w.heap.size w).alloc (by simp <;> omega) _).alloc (by simp <;> omega) _)
  have P : Hid (((w.alloc (.cells (vrow 266 s.at) 47)).alloc (.cells (vrow 2 (spAt x y)) 51)).heap[(w.heap.size)]? = some (.cells (vrow 266 s.at) 47)) := heap_past _ _ _ _ (by first | omega | (simp <;> omega)) (heap_at _ _ _ (by simp))
  have R : Hid (((w.alloc (.cells (vrow 266 s.at) 47)).alloc (.cells (vrow 2 (spAt x y)) 51)).heap[(w.heap.size + 1)]? = some (.cells (vrow 2 (spAt x y)) 51)) := heap_at _ _ _ (by simp)
  have E : Hid (Errs e ((w.alloc (.cells (vrow 266 s.at) 47)).alloc (.cells (vrow 2 (spAt x y)) 51))) := ((hE).alloc _).alloc _
  go_enter Tryd.func101, Tryd.ntmps101
  go_wp2_with (first
    | (refine wpList_ld1 90 _ rfl (by first | exact want_n rfl | exact want_g _ _ _ rfl rfl rfl) 1 0 rfl 1 (fun _ => errP e 1) _ rw_err E.out.v1 (by omega) ?_)
    | (refine wpList_ld1 90 _ rfl (by first | exact want_n rfl | exact want_g _ _ _ rfl rfl rfl) 0 0 rfl 1 (fun _ => errP e 2) _ rw_err E.out.v2 (by omega) ?_)
    | (refine wpList_ld1 90 _ rfl (by first | exact want_n rfl | exact want_g _ _ _ rfl rfl rfl) 2 0 rfl 1 (fun _ => errP e 3) _ rw_err E.out.v3 (by omega) ?_)
    | (refine wpList_ld1 90 _ rfl (by first | exact want_n rfl | exact want_g _ _ _ rfl rfl rfl) 3 0 rfl 1 (fun _ => errP e 4) _ rw_err E.out.v4 (by omega) ?_)
    | (refine wpList_ld1 90 _ rfl (by first | exact want_n rfl | exact want_g _ _ _ rfl rfl rfl) 4 0 rfl 1 (fun _ => errP e 5) _ rw_err E.out.v5 (by omega) ?_)
    | (refine wpList_ld1 90 _ rfl (by first | exact want_n rfl | exact want_g _ _ _ rfl rfl rfl) 5 0 rfl 1 (fun _ => errP e 7) _ rw_err E.out.v7 (by omega) ?_)
    | (go_at_call 134; (refine (amounts_bad s x y k n m hv e _ E.out).mono ?_; rintro e w1 ⟨rfl, hb⟩; replace P := Go.Lib.hid (row_next hb P.out); replace R := Go.Lib.hid (row_next hb R.out); replace hB := Go.Lib.hid (below_next hB.out hb); replace E := Go.Lib.hid (E.out.next hb); clear hb ))
    | (refine list_at 14 rfl ?_; intro W hW; rw [hW] at hB E P R; clear hW; have P' := Go.Lib.hid (cls_row' P.out); have R' := Go.Lib.hid (cls_row' R.out); (repeat (first | go_big_quiet_skip | (refine wpQuiet_loadmid 47 _ rfl (by first | exact want_n rfl | exact want_g _ _ _ rfl rfl rfl) (w.heap.size) _ rfl 266 266 s.at _ rw_sheet size_sheet P'.out (by omega) ?_; rw [sh_row]; simp only [Act.put, List.setIfInBounds_toArray, List.set_cons_succ, List.set_cons_zero]) | (refine wpQuiet_loadmid 51 _ rfl (by first | exact want_n rfl | exact want_g _ _ _ rfl rfl rfl) (w.heap.size + 1) _ rfl 2 2 (spAt x y) _ rw_spot size_spot R'.out (by omega) ?_; rw [sp_row]; simp only [Act.put, List.setIfInBounds_toArray, List.set_cons_succ, List.set_cons_zero]) | go_big_quiet_step ((go_at_call 134; exact cls_call _ (fun w hw => amounts_bad s x y k n m hv e w (E.out.next hw)))))); refine wpQuiet_nil ?_; intro Wn hb; replace P := Go.Lib.hid (row_next hb P.out); replace R := Go.Lib.hid (row_next hb R.out); replace hB := Go.Lib.hid (below_next hB.out hb); replace E := Go.Lib.hid (E.out.next hb); clear hb P' R')
    | (refine list_at 23 rfl ?_; intro W hW; rw [hW] at hB E P R; clear hW; have P' := Go.Lib.hid (cls_row' P.out); have R' := Go.Lib.hid (cls_row' R.out); (repeat (first | go_big_quiet_skip | (refine wpQuiet_loadmid 47 _ rfl (by first | exact want_n rfl | exact want_g _ _ _ rfl rfl rfl) (w.heap.size) _ rfl 266 266 s.at _ rw_sheet size_sheet P'.out (by omega) ?_; rw [sh_row]; simp only [Act.put, List.setIfInBounds_toArray, List.set_cons_succ, List.set_cons_zero]) | (refine wpQuiet_loadmid 51 _ rfl (by first | exact want_n rfl | exact want_g _ _ _ rfl rfl rfl) (w.heap.size + 1) _ rfl 2 2 (spAt x y) _ rw_spot size_spot R'.out (by omega) ?_; rw [sp_row]; simp only [Act.put, List.setIfInBounds_toArray, List.set_cons_succ, List.set_cons_zero]) | go_big_quiet_step ((go_at_call 134; exact cls_call _ (fun w hw => amounts_bad s x y k n m hv e w (E.out.next hw)))))); refine wpQuiet_nil ?_; intro Wn hb; replace P := Go.Lib.hid (row_next hb P.out); replace R := Go.Lib.hid (row_next hb R.out); replace hB := Go.Lib.hid (below_next hB.out hb); replace E := Go.Lib.hid (E.out.next hb); clear hb P' R'))
  go_ret
  exact ⟨rfl, hB.out⟩
set_option maxHeartbeats 400000 in
theorem drop_no (s : Sh) (x y k n m : Int) (hv : okI s = true) (hh : hasB s x y = false) (e : ErrE) (w : World) (hE : Errs e w) : Calls Tryd.prog 101 #[.agg s.row, .agg #[.int .i8 x, .int .i8 y], .int .i64 k, .int .i64 n, .int .i64 m] w fun o w' => o = .returned (errP e 2) ∧ Below w.heap.size w w' := by
  rw [sp_vrow]
  have hB : Hid (Below w.heap.size w ((w.alloc (.cells (vrow 266 s.at) 47)).alloc (.cells (vrow 2 (spAt x y)) 51))) := (((Below.refl w.heap.size w).alloc (by simp <;> omega) _).alloc (by simp <;> omega) _)
  have P : Hid (((w.alloc (.cells (vrow 266 s.at) 47)).alloc (.cells (vrow 2 (spAt x y)) 51)).heap[(w.heap.size)]? = some (.cells (vrow 266 s.at) 47)) := heap_past _ _ _ _ (by first | omega | (simp <;> omega)) (heap_at _ _ _ (by simp))
  have R : Hid (((w.alloc (.cells (vrow 266 s.at) 47)).alloc (.cells (vrow 2 (spAt x y)) 51)).heap[(w.heap.size + 1)]? = some (.cells (vrow 2 (spAt x y)) 51)) := heap_at _ _ _ (by simp)
  have E : Hid (Errs e ((w.alloc (.cells (vrow 266 s.at) 47)).alloc (.cells (vrow 2 (spAt x y)) 51))) := ((hE).alloc _).alloc _
  go_enter Tryd.func101, Tryd.ntmps101
  go_wp2_with (first
    | (refine wpList_ld1 90 _ rfl (by first | exact want_n rfl | exact want_g _ _ _ rfl rfl rfl) 1 0 rfl 1 (fun _ => errP e 1) _ rw_err E.out.v1 (by omega) ?_)
    | (refine wpList_ld1 90 _ rfl (by first | exact want_n rfl | exact want_g _ _ _ rfl rfl rfl) 0 0 rfl 1 (fun _ => errP e 2) _ rw_err E.out.v2 (by omega) ?_)
    | (refine wpList_ld1 90 _ rfl (by first | exact want_n rfl | exact want_g _ _ _ rfl rfl rfl) 2 0 rfl 1 (fun _ => errP e 3) _ rw_err E.out.v3 (by omega) ?_)
    | (refine wpList_ld1 90 _ rfl (by first | exact want_n rfl | exact want_g _ _ _ rfl rfl rfl) 3 0 rfl 1 (fun _ => errP e 4) _ rw_err E.out.v4 (by omega) ?_)
    | (refine wpList_ld1 90 _ rfl (by first | exact want_n rfl | exact want_g _ _ _ rfl rfl rfl) 4 0 rfl 1 (fun _ => errP e 5) _ rw_err E.out.v5 (by omega) ?_)
    | (refine wpList_ld1 90 _ rfl (by first | exact want_n rfl | exact want_g _ _ _ rfl rfl rfl) 5 0 rfl 1 (fun _ => errP e 7) _ rw_err E.out.v7 (by omega) ?_)
    | (go_at_call 134; (refine (amounts_no s x y k n m hv hh e _ E.out).mono ?_; rintro e w1 ⟨rfl, hb⟩; replace P := Go.Lib.hid (row_next hb P.out); replace R := Go.Lib.hid (row_next hb R.out); replace hB := Go.Lib.hid (below_next hB.out hb); replace E := Go.Lib.hid (E.out.next hb); clear hb ))
    | (refine list_at 14 rfl ?_; intro W hW; rw [hW] at hB E P R; clear hW; have P' := Go.Lib.hid (cls_row' P.out); have R' := Go.Lib.hid (cls_row' R.out); (repeat (first | go_big_quiet_skip | (refine wpQuiet_loadmid 47 _ rfl (by first | exact want_n rfl | exact want_g _ _ _ rfl rfl rfl) (w.heap.size) _ rfl 266 266 s.at _ rw_sheet size_sheet P'.out (by omega) ?_; rw [sh_row]; simp only [Act.put, List.setIfInBounds_toArray, List.set_cons_succ, List.set_cons_zero]) | (refine wpQuiet_loadmid 51 _ rfl (by first | exact want_n rfl | exact want_g _ _ _ rfl rfl rfl) (w.heap.size + 1) _ rfl 2 2 (spAt x y) _ rw_spot size_spot R'.out (by omega) ?_; rw [sp_row]; simp only [Act.put, List.setIfInBounds_toArray, List.set_cons_succ, List.set_cons_zero]) | go_big_quiet_step ((go_at_call 134; exact cls_call _ (fun w hw => amounts_no s x y k n m hv hh e w (E.out.next hw)))))); refine wpQuiet_nil ?_; intro Wn hb; replace P := Go.Lib.hid (row_next hb P.out); replace R := Go.Lib.hid (row_next hb R.out); replace hB := Go.Lib.hid (below_next hB.out hb); replace E := Go.Lib.hid (E.out.next hb); clear hb P' R')
    | (refine list_at 23 rfl ?_; intro W hW; rw [hW] at hB E P R; clear hW; have P' := Go.Lib.hid (cls_row' P.out); have R' := Go.Lib.hid (cls_row' R.out); (repeat (first | go_big_quiet_skip | (refine wpQuiet_loadmid 47 _ rfl (by first | exact want_n rfl | exact want_g _ _ _ rfl rfl rfl) (w.heap.size) _ rfl 266 266 s.at _ rw_sheet size_sheet P'.out (by omega) ?_; rw [sh_row]; simp only [Act.put, List.setIfInBounds_toArray, List.set_cons_succ, List.set_cons_zero]) | (refine wpQuiet_loadmid 51 _ rfl (by first | exact want_n rfl | exact want_g _ _ _ rfl rfl rfl) (w.heap.size + 1) _ rfl 2 2 (spAt x y) _ rw_spot size_spot R'.out (by omega) ?_; rw [sp_row]; simp only [Act.put, List.setIfInBounds_toArray, List.set_cons_succ, List.set_cons_zero]) | go_big_quiet_step ((go_at_call 134; exact cls_call _ (fun w hw => amounts_no s x y k n m hv hh e w (E.out.next hw)))))); refine wpQuiet_nil ?_; intro Wn hb; replace P := Go.Lib.hid (row_next hb P.out); replace R := Go.Lib.hid (row_next hb R.out); replace hB := Go.Lib.hid (below_next hB.out hb); replace E := Go.Lib.hid (E.out.next hb); clear hb P' R'))
  go_ret
  exact ⟨rfl, hB.out⟩
set_option maxHeartbeats 400000 in
theorem drop_un (s : Sh) (x y k n m : Int) (hv : okI s = true) (hh : hasB s x y = true) (hfi : fineB k n m = false) (e : ErrE) (w : World) (hE : Errs e w) : Calls Tryd.prog 101 #[.agg s.row, .agg #[.int .i8 x, .int .i8 y], .int .i64 k, .int .i64 n, .int .i64 m] w fun o w' => o = .returned (errP e 2) ∧ Below w.heap.size w w' := by
  rw [sp_vrow]
  have hB : Hid (Below w.heap.size w ((w.alloc (.cells (vrow 266 s.at) 47)).alloc (.cells (vrow 2 (spAt x y)) 51))) := (((Below.refl w.heap.size w).alloc (by simp <;> omega) _).alloc (by simp <;> omega) _)
  have P : Hid (((w.alloc (.cells (vrow 266 s.at) 47)).alloc (.cells (vrow 2 (spAt x y)) 51)).heap[(w.heap.size)]? = some (.cells (vrow 266 s.at) 47)) := heap_past _ _ _ _ (by first | omega | (simp <;> omega)) (heap_at _ _ _ (by simp))
  have R : Hid (((w.alloc (.cells (vrow 266 s.at) 47)).alloc (.cells (vrow 2 (spAt x y)) 51)).heap[(w.heap.size + 1)]? = some (.cells (vrow 2 (spAt x y)) 51)) := heap_at _ _ _ (by simp)
  have E : Hid (Errs e ((w.alloc (.cells (vrow 266 s.at) 47)).alloc (.cells (vrow 2 (spAt x y)) 51))) := ((hE).alloc _).alloc _
  go_enter Tryd.func101, Tryd.ntmps101
  go_wp2_with (first
    | (refine wpList_ld1 90 _ rfl (by first | exact want_n rfl | exact want_g _ _ _ rfl rfl rfl) 1 0 rfl 1 (fun _ => errP e 1) _ rw_err E.out.v1 (by omega) ?_)
    | (refine wpList_ld1 90 _ rfl (by first | exact want_n rfl | exact want_g _ _ _ rfl rfl rfl) 0 0 rfl 1 (fun _ => errP e 2) _ rw_err E.out.v2 (by omega) ?_)
    | (refine wpList_ld1 90 _ rfl (by first | exact want_n rfl | exact want_g _ _ _ rfl rfl rfl) 2 0 rfl 1 (fun _ => errP e 3) _ rw_err E.out.v3 (by omega) ?_)
    | (refine wpList_ld1 90 _ rfl (by first | exact want_n rfl | exact want_g _ _ _ rfl rfl rfl) 3 0 rfl 1 (fun _ => errP e 4) _ rw_err E.out.v4 (by omega) ?_)
    | (refine wpList_ld1 90 _ rfl (by first | exact want_n rfl | exact want_g _ _ _ rfl rfl rfl) 4 0 rfl 1 (fun _ => errP e 5) _ rw_err E.out.v5 (by omega) ?_)
    | (refine wpList_ld1 90 _ rfl (by first | exact want_n rfl | exact want_g _ _ _ rfl rfl rfl) 5 0 rfl 1 (fun _ => errP e 7) _ rw_err E.out.v7 (by omega) ?_)
    | (go_at_call 134; (refine (amounts_un s x y k n m hv hh hfi e _ E.out).mono ?_; rintro e w1 ⟨rfl, hb⟩; replace P := Go.Lib.hid (row_next hb P.out); replace R := Go.Lib.hid (row_next hb R.out); replace hB := Go.Lib.hid (below_next hB.out hb); replace E := Go.Lib.hid (E.out.next hb); clear hb ))
    | (refine list_at 14 rfl ?_; intro W hW; rw [hW] at hB E P R; clear hW; have P' := Go.Lib.hid (cls_row' P.out); have R' := Go.Lib.hid (cls_row' R.out); (repeat (first | go_big_quiet_skip | (refine wpQuiet_loadmid 47 _ rfl (by first | exact want_n rfl | exact want_g _ _ _ rfl rfl rfl) (w.heap.size) _ rfl 266 266 s.at _ rw_sheet size_sheet P'.out (by omega) ?_; rw [sh_row]; simp only [Act.put, List.setIfInBounds_toArray, List.set_cons_succ, List.set_cons_zero]) | (refine wpQuiet_loadmid 51 _ rfl (by first | exact want_n rfl | exact want_g _ _ _ rfl rfl rfl) (w.heap.size + 1) _ rfl 2 2 (spAt x y) _ rw_spot size_spot R'.out (by omega) ?_; rw [sp_row]; simp only [Act.put, List.setIfInBounds_toArray, List.set_cons_succ, List.set_cons_zero]) | go_big_quiet_step ((go_at_call 134; exact cls_call _ (fun w hw => amounts_un s x y k n m hv hh hfi e w (E.out.next hw)))))); refine wpQuiet_nil ?_; intro Wn hb; replace P := Go.Lib.hid (row_next hb P.out); replace R := Go.Lib.hid (row_next hb R.out); replace hB := Go.Lib.hid (below_next hB.out hb); replace E := Go.Lib.hid (E.out.next hb); clear hb P' R')
    | (refine list_at 23 rfl ?_; intro W hW; rw [hW] at hB E P R; clear hW; have P' := Go.Lib.hid (cls_row' P.out); have R' := Go.Lib.hid (cls_row' R.out); (repeat (first | go_big_quiet_skip | (refine wpQuiet_loadmid 47 _ rfl (by first | exact want_n rfl | exact want_g _ _ _ rfl rfl rfl) (w.heap.size) _ rfl 266 266 s.at _ rw_sheet size_sheet P'.out (by omega) ?_; rw [sh_row]; simp only [Act.put, List.setIfInBounds_toArray, List.set_cons_succ, List.set_cons_zero]) | (refine wpQuiet_loadmid 51 _ rfl (by first | exact want_n rfl | exact want_g _ _ _ rfl rfl rfl) (w.heap.size + 1) _ rfl 2 2 (spAt x y) _ rw_spot size_spot R'.out (by omega) ?_; rw [sp_row]; simp only [Act.put, List.setIfInBounds_toArray, List.set_cons_succ, List.set_cons_zero]) | go_big_quiet_step ((go_at_call 134; exact cls_call _ (fun w hw => amounts_un s x y k n m hv hh hfi e w (E.out.next hw)))))); refine wpQuiet_nil ?_; intro Wn hb; replace P := Go.Lib.hid (row_next hb P.out); replace R := Go.Lib.hid (row_next hb R.out); replace hB := Go.Lib.hid (below_next hB.out hb); replace E := Go.Lib.hid (E.out.next hb); clear hb P' R'))
  go_ret
  exact ⟨rfl, hB.out⟩
set_option maxHeartbeats 2000000 in
theorem drop_wax (s : Sh) (x y : Nat) (k n m : Int) (hf : s.fit) (hx : x < 8) (hy : y < 8) (hv : okI s = true) (hh : hasB s x y = true) (hfi : fineB k n m = true) (hw : waxB s x y = true) (e : ErrE) (w : World) (hE : Errs e w) : Calls Tryd.prog 101 #[.agg s.row, .agg #[.int .i8 x, .int .i8 y], .int .i64 k, .int .i64 n, .int .i64 m] w fun o w' => o = .returned (errP e 4) ∧ Below w.heap.size w w' := by
  obtain ⟨hk, hn, hm⟩ := fine_parts hfi
  have hkk : ∃ i : Nat, k = i ∧ i < 3 := ⟨k.toNat, by simp [inkB] at hk; omega, by simp [inkB] at hk; omega⟩
  obtain ⟨k, rfl, hk3⟩ := hkk
  have HA := Go.Lib.hid fun w hE => amounts_ok s x y k n m hv hh hk hn hm e w hE
  have HX0 := fun w => waxed_any s x y hx hy w
  rw [hw] at HX0
  have HX := Go.Lib.hid HX0
  clear HX0
  simp only [amtB, watB, Bool.and_eq_true, decide_eq_true_eq] at hn hm
  clear hfi hk
  rw [sp_vrow]
  have hB : Hid (Below w.heap.size w ((w.alloc (.cells (vrow 266 s.at) 47)).alloc (.cells (vrow 2 (spAt x y)) 51))) := (((Below.refl w.heap.size w).alloc (by simp <;> omega) _).alloc (by simp <;> omega) _)
  have P : Hid (((w.alloc (.cells (vrow 266 s.at) 47)).alloc (.cells (vrow 2 (spAt x y)) 51)).heap[(w.heap.size)]? = some (.cells (vrow 266 s.at) 47)) := heap_past _ _ _ _ (by first | omega | (simp <;> omega)) (heap_at _ _ _ (by simp))
  have R : Hid (((w.alloc (.cells (vrow 266 s.at) 47)).alloc (.cells (vrow 2 (spAt x y)) 51)).heap[(w.heap.size + 1)]? = some (.cells (vrow 2 (spAt x y)) 51)) := heap_at _ _ _ (by simp)
  have E : Hid (Errs e ((w.alloc (.cells (vrow 266 s.at) 47)).alloc (.cells (vrow 2 (spAt x y)) 51))) := ((hE).alloc _).alloc _
  go_enter Tryd.func101, Tryd.ntmps101
  go_wp2_with (first
    | (refine wpList_ld1 90 _ rfl (by first | exact want_n rfl | exact want_g _ _ _ rfl rfl rfl) 1 0 rfl 1 (fun _ => errP e 1) _ rw_err E.out.v1 (by omega) ?_)
    | (refine wpList_ld1 90 _ rfl (by first | exact want_n rfl | exact want_g _ _ _ rfl rfl rfl) 0 0 rfl 1 (fun _ => errP e 2) _ rw_err E.out.v2 (by omega) ?_)
    | (refine wpList_ld1 90 _ rfl (by first | exact want_n rfl | exact want_g _ _ _ rfl rfl rfl) 2 0 rfl 1 (fun _ => errP e 3) _ rw_err E.out.v3 (by omega) ?_)
    | (refine wpList_ld1 90 _ rfl (by first | exact want_n rfl | exact want_g _ _ _ rfl rfl rfl) 3 0 rfl 1 (fun _ => errP e 4) _ rw_err E.out.v4 (by omega) ?_)
    | (refine wpList_ld1 90 _ rfl (by first | exact want_n rfl | exact want_g _ _ _ rfl rfl rfl) 4 0 rfl 1 (fun _ => errP e 5) _ rw_err E.out.v5 (by omega) ?_)
    | (refine wpList_ld1 90 _ rfl (by first | exact want_n rfl | exact want_g _ _ _ rfl rfl rfl) 5 0 rfl 1 (fun _ => errP e 7) _ rw_err E.out.v7 (by omega) ?_)
    | (go_at_call 134; (refine (HA.out _ E.out).mono ?_; rintro e w1 ⟨rfl, hb⟩; replace P := Go.Lib.hid (row_next hb P.out); replace R := Go.Lib.hid (row_next hb R.out); replace hB := Go.Lib.hid (below_next hB.out hb); replace E := Go.Lib.hid (E.out.next hb); clear hb ))
    | (go_at_call 110; (refine (HX.out _).mono ?_; rintro e w1 ⟨rfl, hb⟩; replace P := Go.Lib.hid (row_next hb P.out); replace R := Go.Lib.hid (row_next hb R.out); replace hB := Go.Lib.hid (below_next hB.out hb); replace E := Go.Lib.hid (E.out.next hb); clear hb ))
    | (refine list_at 14 rfl ?_; intro W hW; rw [hW] at hB E P R; clear hW; have P' := Go.Lib.hid (cls_row' P.out); have R' := Go.Lib.hid (cls_row' R.out); (repeat (first | go_big_quiet_skip | (refine wpQuiet_load1 22 _ rfl (by first | exact want_n rfl | exact want_g _ _ _ rfl rfl rfl) (w.heap.size) _ rfl 266 s.at _ rw_i16 P'.out (by omega) ?_; (first | rw [Sh.at_0] | rw [Sh.at_1] | rw [Sh.at_wax1 _ _ (by omega)] | rw [Sh.at_wet1 _ _ (8 * y + x) (by omega) (by omega)] | rw [Sh.at_dye1 _ _ (24 * y + 3 * x) (by omega) (by omega)]); simp only [Act.put, List.setIfInBounds_toArray, List.set_cons_succ, List.set_cons_zero]) | (refine wpQuiet_loadmid 47 _ rfl (by first | exact want_n rfl | exact want_g _ _ _ rfl rfl rfl) (w.heap.size) _ rfl 266 266 s.at _ rw_sheet size_sheet P'.out (by omega) ?_; rw [sh_row]; simp only [Act.put, List.setIfInBounds_toArray, List.set_cons_succ, List.set_cons_zero]) | (refine wpQuiet_load1 24 _ rfl (by first | exact want_n rfl | exact want_g _ _ _ rfl rfl rfl) (w.heap.size + 1) _ rfl 2 (spAt x y) _ rw_i8 R'.out (by omega) ?_; (first | rw [spAt_0] | rw [spAt_1]); simp only [Act.put, List.setIfInBounds_toArray, List.set_cons_succ, List.set_cons_zero]) | (refine wpQuiet_loadmid 51 _ rfl (by first | exact want_n rfl | exact want_g _ _ _ rfl rfl rfl) (w.heap.size + 1) _ rfl 2 2 (spAt x y) _ rw_spot size_spot R'.out (by omega) ?_; rw [sp_row]; simp only [Act.put, List.setIfInBounds_toArray, List.set_cons_succ, List.set_cons_zero]) | go_big_quiet_step (first | (go_at_call 134; exact cls_call _ (fun w hw => HA.out w (E.out.next hw))) | (go_at_call 110; exact cls_call _ (fun w hw => HX.out w))))); refine wpQuiet_nil ?_; intro Wn hb; replace P := Go.Lib.hid (row_next hb P.out); replace R := Go.Lib.hid (row_next hb R.out); replace hB := Go.Lib.hid (below_next hB.out hb); replace E := Go.Lib.hid (E.out.next hb); clear hb P' R')
    | (refine list_at 23 rfl ?_; intro W hW; rw [hW] at hB E P R; clear hW; have P' := Go.Lib.hid (cls_row' P.out); have R' := Go.Lib.hid (cls_row' R.out); (repeat (first | go_big_quiet_skip | (refine wpQuiet_load1 22 _ rfl (by first | exact want_n rfl | exact want_g _ _ _ rfl rfl rfl) (w.heap.size) _ rfl 266 s.at _ rw_i16 P'.out (by omega) ?_; (first | rw [Sh.at_0] | rw [Sh.at_1] | rw [Sh.at_wax1 _ _ (by omega)] | rw [Sh.at_wet1 _ _ (8 * y + x) (by omega) (by omega)] | rw [Sh.at_dye1 _ _ (24 * y + 3 * x) (by omega) (by omega)]); simp only [Act.put, List.setIfInBounds_toArray, List.set_cons_succ, List.set_cons_zero]) | (refine wpQuiet_loadmid 47 _ rfl (by first | exact want_n rfl | exact want_g _ _ _ rfl rfl rfl) (w.heap.size) _ rfl 266 266 s.at _ rw_sheet size_sheet P'.out (by omega) ?_; rw [sh_row]; simp only [Act.put, List.setIfInBounds_toArray, List.set_cons_succ, List.set_cons_zero]) | (refine wpQuiet_load1 24 _ rfl (by first | exact want_n rfl | exact want_g _ _ _ rfl rfl rfl) (w.heap.size + 1) _ rfl 2 (spAt x y) _ rw_i8 R'.out (by omega) ?_; (first | rw [spAt_0] | rw [spAt_1]); simp only [Act.put, List.setIfInBounds_toArray, List.set_cons_succ, List.set_cons_zero]) | (refine wpQuiet_loadmid 51 _ rfl (by first | exact want_n rfl | exact want_g _ _ _ rfl rfl rfl) (w.heap.size + 1) _ rfl 2 2 (spAt x y) _ rw_spot size_spot R'.out (by omega) ?_; rw [sp_row]; simp only [Act.put, List.setIfInBounds_toArray, List.set_cons_succ, List.set_cons_zero]) | go_big_quiet_step (first | (go_at_call 134; exact cls_call _ (fun w hw => HA.out w (E.out.next hw))) | (go_at_call 110; exact cls_call _ (fun w hw => HX.out w))))); refine wpQuiet_nil ?_; intro Wn hb; replace P := Go.Lib.hid (row_next hb P.out); replace R := Go.Lib.hid (row_next hb R.out); replace hB := Go.Lib.hid (below_next hB.out hb); replace E := Go.Lib.hid (E.out.next hb); clear hb P' R'))
  go_ret
  exact ⟨rfl, hB.out⟩
set_option maxHeartbeats 2000000 in
theorem drop_limA (s : Sh) (x y : Nat) (k n m : Int) (hf : s.fit) (hx : x < 8) (hy : y < 8) (hv : okI s = true) (hh : hasB s x y = true) (hfi : fineB k n m = true) (hw : waxB s x y = false) (hl : 1000 < s.dye (24 * y + 3 * x + k.toNat) + n) (e : ErrE) (w : World) (hE : Errs e w) : Calls Tryd.prog 101 #[.agg s.row, .agg #[.int .i8 x, .int .i8 y], .int .i64 k, .int .i64 n, .int .i64 m] w fun o w' => o = .returned (errP e 3) ∧ Below w.heap.size w w' := by
  obtain ⟨hk, hn, hm⟩ := fine_parts hfi
  have hkk : ∃ i : Nat, k = i ∧ i < 3 := ⟨k.toNat, by simp [inkB] at hk; omega, by simp [inkB] at hk; omega⟩
  obtain ⟨k, rfl, hk3⟩ := hkk
  have HA := Go.Lib.hid fun w hE => amounts_ok s x y k n m hv hh hk hn hm e w hE
  have HX0 := fun w => waxed_any s x y hx hy w
  rw [hw] at HX0
  have HX := Go.Lib.hid HX0
  clear HX0
  simp only [amtB, watB, Bool.and_eq_true, decide_eq_true_eq] at hn hm
  clear hfi hk
  have hdb := hf.dye (24 * y + 3 * x + k) (by omega)
  have hwb := hf.wet (8 * y + x) (by omega)
  have hxI : (x : Int) < 8 := by omega
  have hyI : (y : Int) < 8 := by omega
  have hkI : (k : Int) < 3 := by omega
  have t1 : decide (1000 < s.dye (24 * y + 3 * x + k) + n) = true := by simpa using hl
  clear hl
  rw [sp_vrow]
  have hB : Hid (Below w.heap.size w ((w.alloc (.cells (vrow 266 s.at) 47)).alloc (.cells (vrow 2 (spAt x y)) 51))) := (((Below.refl w.heap.size w).alloc (by simp <;> omega) _).alloc (by simp <;> omega) _)
  have P : Hid (((w.alloc (.cells (vrow 266 s.at) 47)).alloc (.cells (vrow 2 (spAt x y)) 51)).heap[(w.heap.size)]? = some (.cells (vrow 266 s.at) 47)) := heap_past _ _ _ _ (by first | omega | (simp <;> omega)) (heap_at _ _ _ (by simp))
  have R : Hid (((w.alloc (.cells (vrow 266 s.at) 47)).alloc (.cells (vrow 2 (spAt x y)) 51)).heap[(w.heap.size + 1)]? = some (.cells (vrow 2 (spAt x y)) 51)) := heap_at _ _ _ (by simp)
  have E : Hid (Errs e ((w.alloc (.cells (vrow 266 s.at) 47)).alloc (.cells (vrow 2 (spAt x y)) 51))) := ((hE).alloc _).alloc _
  go_enter Tryd.func101, Tryd.ntmps101
  go_wp2_with (first
    | (refine wpList_ld1 90 _ rfl (by first | exact want_n rfl | exact want_g _ _ _ rfl rfl rfl) 1 0 rfl 1 (fun _ => errP e 1) _ rw_err E.out.v1 (by omega) ?_)
    | (refine wpList_ld1 90 _ rfl (by first | exact want_n rfl | exact want_g _ _ _ rfl rfl rfl) 0 0 rfl 1 (fun _ => errP e 2) _ rw_err E.out.v2 (by omega) ?_)
    | (refine wpList_ld1 90 _ rfl (by first | exact want_n rfl | exact want_g _ _ _ rfl rfl rfl) 2 0 rfl 1 (fun _ => errP e 3) _ rw_err E.out.v3 (by omega) ?_)
    | (refine wpList_ld1 90 _ rfl (by first | exact want_n rfl | exact want_g _ _ _ rfl rfl rfl) 3 0 rfl 1 (fun _ => errP e 4) _ rw_err E.out.v4 (by omega) ?_)
    | (refine wpList_ld1 90 _ rfl (by first | exact want_n rfl | exact want_g _ _ _ rfl rfl rfl) 4 0 rfl 1 (fun _ => errP e 5) _ rw_err E.out.v5 (by omega) ?_)
    | (refine wpList_ld1 90 _ rfl (by first | exact want_n rfl | exact want_g _ _ _ rfl rfl rfl) 5 0 rfl 1 (fun _ => errP e 7) _ rw_err E.out.v7 (by omega) ?_)
    | (go_at_call 134; (refine (HA.out _ E.out).mono ?_; rintro e w1 ⟨rfl, hb⟩; replace P := Go.Lib.hid (row_next hb P.out); replace R := Go.Lib.hid (row_next hb R.out); replace hB := Go.Lib.hid (below_next hB.out hb); replace E := Go.Lib.hid (E.out.next hb); clear hb ))
    | (go_at_call 110; (refine (HX.out _).mono ?_; rintro e w1 ⟨rfl, hb⟩; replace P := Go.Lib.hid (row_next hb P.out); replace R := Go.Lib.hid (row_next hb R.out); replace hB := Go.Lib.hid (below_next hB.out hb); replace E := Go.Lib.hid (E.out.next hb); clear hb ))
    | (refine list_at 14 rfl ?_; intro W hW; rw [hW] at hB E P R; clear hW; have P' := Go.Lib.hid (cls_row' P.out); have R' := Go.Lib.hid (cls_row' R.out); (repeat (first | go_big_quiet_skip | (refine wpQuiet_load1 22 _ rfl (by first | exact want_n rfl | exact want_g _ _ _ rfl rfl rfl) (w.heap.size) _ rfl 266 s.at _ rw_i16 P'.out (by omega) ?_; (first | rw [Sh.at_0] | rw [Sh.at_1] | rw [Sh.at_wet1 _ _ (8 * y + x) (by omega) (by omega)] | rw [Sh.at_dye1 _ _ (24 * y + 3 * x + k) (by omega) (by omega)]); simp only [Act.put, List.setIfInBounds_toArray, List.set_cons_succ, List.set_cons_zero]) | (refine wpQuiet_loadmid 47 _ rfl (by first | exact want_n rfl | exact want_g _ _ _ rfl rfl rfl) (w.heap.size) _ rfl 266 266 s.at _ rw_sheet size_sheet P'.out (by omega) ?_; rw [sh_row]; simp only [Act.put, List.setIfInBounds_toArray, List.set_cons_succ, List.set_cons_zero]) | (refine wpQuiet_load1 24 _ rfl (by first | exact want_n rfl | exact want_g _ _ _ rfl rfl rfl) (w.heap.size + 1) _ rfl 2 (spAt x y) _ rw_i8 R'.out (by omega) ?_; (first | rw [spAt_0] | rw [spAt_1]); simp only [Act.put, List.setIfInBounds_toArray, List.set_cons_succ, List.set_cons_zero]) | (refine wpQuiet_loadmid 51 _ rfl (by first | exact want_n rfl | exact want_g _ _ _ rfl rfl rfl) (w.heap.size + 1) _ rfl 2 2 (spAt x y) _ rw_spot size_spot R'.out (by omega) ?_; rw [sp_row]; simp only [Act.put, List.setIfInBounds_toArray, List.set_cons_succ, List.set_cons_zero]) | go_big_quiet_step (first | (go_at_call 134; exact cls_call _ (fun w hw => HA.out w (E.out.next hw))) | (go_at_call 110; exact cls_call _ (fun w hw => HX.out w))))); refine wpQuiet_nil ?_; intro Wn hb; replace P := Go.Lib.hid (row_next hb P.out); replace R := Go.Lib.hid (row_next hb R.out); replace hB := Go.Lib.hid (below_next hB.out hb); replace E := Go.Lib.hid (E.out.next hb); clear hb P' R')
    | (refine list_at 23 rfl ?_; intro W hW; rw [hW] at hB E P R; clear hW; have P' := Go.Lib.hid (cls_row' P.out); have R' := Go.Lib.hid (cls_row' R.out); (repeat (first | go_big_quiet_skip | (refine wpQuiet_load1 22 _ rfl (by first | exact want_n rfl | exact want_g _ _ _ rfl rfl rfl) (w.heap.size) _ rfl 266 s.at _ rw_i16 P'.out (by omega) ?_; (first | rw [Sh.at_0] | rw [Sh.at_1] | rw [Sh.at_wet1 _ _ (8 * y + x) (by omega) (by omega)] | rw [Sh.at_dye1 _ _ (24 * y + 3 * x + k) (by omega) (by omega)]); simp only [Act.put, List.setIfInBounds_toArray, List.set_cons_succ, List.set_cons_zero]) | (refine wpQuiet_loadmid 47 _ rfl (by first | exact want_n rfl | exact want_g _ _ _ rfl rfl rfl) (w.heap.size) _ rfl 266 266 s.at _ rw_sheet size_sheet P'.out (by omega) ?_; rw [sh_row]; simp only [Act.put, List.setIfInBounds_toArray, List.set_cons_succ, List.set_cons_zero]) | (refine wpQuiet_load1 24 _ rfl (by first | exact want_n rfl | exact want_g _ _ _ rfl rfl rfl) (w.heap.size + 1) _ rfl 2 (spAt x y) _ rw_i8 R'.out (by omega) ?_; (first | rw [spAt_0] | rw [spAt_1]); simp only [Act.put, List.setIfInBounds_toArray, List.set_cons_succ, List.set_cons_zero]) | (refine wpQuiet_loadmid 51 _ rfl (by first | exact want_n rfl | exact want_g _ _ _ rfl rfl rfl) (w.heap.size + 1) _ rfl 2 2 (spAt x y) _ rw_spot size_spot R'.out (by omega) ?_; rw [sp_row]; simp only [Act.put, List.setIfInBounds_toArray, List.set_cons_succ, List.set_cons_zero]) | go_big_quiet_step (first | (go_at_call 134; exact cls_call _ (fun w hw => HA.out w (E.out.next hw))) | (go_at_call 110; exact cls_call _ (fun w hw => HX.out w))))); refine wpQuiet_nil ?_; intro Wn hb; replace P := Go.Lib.hid (row_next hb P.out); replace R := Go.Lib.hid (row_next hb R.out); replace hB := Go.Lib.hid (below_next hB.out hb); replace E := Go.Lib.hid (E.out.next hb); clear hb P' R'))
  (refine region_at (by kernel_rfl) (by kernel_rfl) ?_; intro W hW; rw [hW] at hB E P R; clear hW; have P' := Go.Lib.hid (cls_row' P.out); have R' := Go.Lib.hid (cls_row' R.out); (repeat (first | go_big_quiet_skip | (refine wpQuiet_load1 22 _ rfl (by first | exact want_n rfl | exact want_g _ _ _ rfl rfl rfl) (w.heap.size) _ rfl 266 s.at _ rw_i16 P'.out (by omega) ?_; (first | rw [Sh.at_0] | rw [Sh.at_1] | rw [Sh.at_wet1 _ _ (8 * y + x) (by omega) (by omega)] | rw [Sh.at_dye1 _ _ (24 * y + 3 * x + k) (by omega) (by omega)]); simp only [Act.put, List.setIfInBounds_toArray, List.set_cons_succ, List.set_cons_zero]) | (refine wpQuiet_loadmid 47 _ rfl (by first | exact want_n rfl | exact want_g _ _ _ rfl rfl rfl) (w.heap.size) _ rfl 266 266 s.at _ rw_sheet size_sheet P'.out (by omega) ?_; rw [sh_row]; simp only [Act.put, List.setIfInBounds_toArray, List.set_cons_succ, List.set_cons_zero]) | (refine wpQuiet_load1 24 _ rfl (by first | exact want_n rfl | exact want_g _ _ _ rfl rfl rfl) (w.heap.size + 1) _ rfl 2 (spAt x y) _ rw_i8 R'.out (by omega) ?_; (first | rw [spAt_0] | rw [spAt_1]); simp only [Act.put, List.setIfInBounds_toArray, List.set_cons_succ, List.set_cons_zero]) | (refine wpQuiet_loadmid 51 _ rfl (by first | exact want_n rfl | exact want_g _ _ _ rfl rfl rfl) (w.heap.size + 1) _ rfl 2 2 (spAt x y) _ rw_spot size_spot R'.out (by omega) ?_; rw [sp_row]; simp only [Act.put, List.setIfInBounds_toArray, List.set_cons_succ, List.set_cons_zero]) | go_big_quiet_step (fail))); refine wpQuiet_nil ?_; intro Wn hb; replace P := Go.Lib.hid (row_next hb P.out); replace R := Go.Lib.hid (row_next hb R.out); replace hB := Go.Lib.hid (below_next hB.out hb); replace E := Go.Lib.hid (E.out.next hb); clear hb P' R')
  go_wp2_with (first
    | (refine wpList_ld1 90 _ rfl (by first | exact want_n rfl | exact want_g _ _ _ rfl rfl rfl) 1 0 rfl 1 (fun _ => errP e 1) _ rw_err E.out.v1 (by omega) ?_)
    | (refine wpList_ld1 90 _ rfl (by first | exact want_n rfl | exact want_g _ _ _ rfl rfl rfl) 0 0 rfl 1 (fun _ => errP e 2) _ rw_err E.out.v2 (by omega) ?_)
    | (refine wpList_ld1 90 _ rfl (by first | exact want_n rfl | exact want_g _ _ _ rfl rfl rfl) 2 0 rfl 1 (fun _ => errP e 3) _ rw_err E.out.v3 (by omega) ?_)
    | (refine wpList_ld1 90 _ rfl (by first | exact want_n rfl | exact want_g _ _ _ rfl rfl rfl) 3 0 rfl 1 (fun _ => errP e 4) _ rw_err E.out.v4 (by omega) ?_)
    | (refine wpList_ld1 90 _ rfl (by first | exact want_n rfl | exact want_g _ _ _ rfl rfl rfl) 4 0 rfl 1 (fun _ => errP e 5) _ rw_err E.out.v5 (by omega) ?_)
    | (refine wpList_ld1 90 _ rfl (by first | exact want_n rfl | exact want_g _ _ _ rfl rfl rfl) 5 0 rfl 1 (fun _ => errP e 7) _ rw_err E.out.v7 (by omega) ?_))
  go_ret
  exact ⟨rfl, hB.out⟩
set_option maxHeartbeats 2000000 in
theorem drop_limB (s : Sh) (x y : Nat) (k n m : Int) (hf : s.fit) (hx : x < 8) (hy : y < 8) (hv : okI s = true) (hh : hasB s x y = true) (hfi : fineB k n m = true) (hw : waxB s x y = false) (hl : ¬ 1000 < s.dye (24 * y + 3 * x + k.toNat) + n) (hl2 : 200 < s.wet (8 * y + x) + m) (e : ErrE) (w : World) (hE : Errs e w) : Calls Tryd.prog 101 #[.agg s.row, .agg #[.int .i8 x, .int .i8 y], .int .i64 k, .int .i64 n, .int .i64 m] w fun o w' => o = .returned (errP e 3) ∧ Below w.heap.size w w' := by
  obtain ⟨hk, hn, hm⟩ := fine_parts hfi
  have hkk : ∃ i : Nat, k = i ∧ i < 3 := ⟨k.toNat, by simp [inkB] at hk; omega, by simp [inkB] at hk; omega⟩
  obtain ⟨k, rfl, hk3⟩ := hkk
  have HA := Go.Lib.hid fun w hE => amounts_ok s x y k n m hv hh hk hn hm e w hE
  have HX0 := fun w => waxed_any s x y hx hy w
  rw [hw] at HX0
  have HX := Go.Lib.hid HX0
  clear HX0
  simp only [amtB, watB, Bool.and_eq_true, decide_eq_true_eq] at hn hm
  clear hfi hk
  have hdb := hf.dye (24 * y + 3 * x + k) (by omega)
  have hwb := hf.wet (8 * y + x) (by omega)
  have hxI : (x : Int) < 8 := by omega
  have hyI : (y : Int) < 8 := by omega
  have hkI : (k : Int) < 3 := by omega
  have t1 : decide (1000 < s.dye (24 * y + 3 * x + k) + n) = false := by simpa using hl
  have t2 : decide (200 < s.wet (8 * y + x) + m) = true := by simpa using hl2
  clear hl hl2
  rw [sp_vrow]
  have hB : Hid (Below w.heap.size w ((w.alloc (.cells (vrow 266 s.at) 47)).alloc (.cells (vrow 2 (spAt x y)) 51))) := (((Below.refl w.heap.size w).alloc (by simp <;> omega) _).alloc (by simp <;> omega) _)
  have P : Hid (((w.alloc (.cells (vrow 266 s.at) 47)).alloc (.cells (vrow 2 (spAt x y)) 51)).heap[(w.heap.size)]? = some (.cells (vrow 266 s.at) 47)) := heap_past _ _ _ _ (by first | omega | (simp <;> omega)) (heap_at _ _ _ (by simp))
  have R : Hid (((w.alloc (.cells (vrow 266 s.at) 47)).alloc (.cells (vrow 2 (spAt x y)) 51)).heap[(w.heap.size + 1)]? = some (.cells (vrow 2 (spAt x y)) 51)) := heap_at _ _ _ (by simp)
  have E : Hid (Errs e ((w.alloc (.cells (vrow 266 s.at) 47)).alloc (.cells (vrow 2 (spAt x y)) 51))) := ((hE).alloc _).alloc _
  go_enter Tryd.func101, Tryd.ntmps101
  go_wp2_with (first
    | (refine wpList_ld1 90 _ rfl (by first | exact want_n rfl | exact want_g _ _ _ rfl rfl rfl) 1 0 rfl 1 (fun _ => errP e 1) _ rw_err E.out.v1 (by omega) ?_)
    | (refine wpList_ld1 90 _ rfl (by first | exact want_n rfl | exact want_g _ _ _ rfl rfl rfl) 0 0 rfl 1 (fun _ => errP e 2) _ rw_err E.out.v2 (by omega) ?_)
    | (refine wpList_ld1 90 _ rfl (by first | exact want_n rfl | exact want_g _ _ _ rfl rfl rfl) 2 0 rfl 1 (fun _ => errP e 3) _ rw_err E.out.v3 (by omega) ?_)
    | (refine wpList_ld1 90 _ rfl (by first | exact want_n rfl | exact want_g _ _ _ rfl rfl rfl) 3 0 rfl 1 (fun _ => errP e 4) _ rw_err E.out.v4 (by omega) ?_)
    | (refine wpList_ld1 90 _ rfl (by first | exact want_n rfl | exact want_g _ _ _ rfl rfl rfl) 4 0 rfl 1 (fun _ => errP e 5) _ rw_err E.out.v5 (by omega) ?_)
    | (refine wpList_ld1 90 _ rfl (by first | exact want_n rfl | exact want_g _ _ _ rfl rfl rfl) 5 0 rfl 1 (fun _ => errP e 7) _ rw_err E.out.v7 (by omega) ?_)
    | (go_at_call 134; (refine (HA.out _ E.out).mono ?_; rintro e w1 ⟨rfl, hb⟩; replace P := Go.Lib.hid (row_next hb P.out); replace R := Go.Lib.hid (row_next hb R.out); replace hB := Go.Lib.hid (below_next hB.out hb); replace E := Go.Lib.hid (E.out.next hb); clear hb ))
    | (go_at_call 110; (refine (HX.out _).mono ?_; rintro e w1 ⟨rfl, hb⟩; replace P := Go.Lib.hid (row_next hb P.out); replace R := Go.Lib.hid (row_next hb R.out); replace hB := Go.Lib.hid (below_next hB.out hb); replace E := Go.Lib.hid (E.out.next hb); clear hb ))
    | (refine list_at 14 rfl ?_; intro W hW; rw [hW] at hB E P R; clear hW; have P' := Go.Lib.hid (cls_row' P.out); have R' := Go.Lib.hid (cls_row' R.out); (repeat (first | go_big_quiet_skip | (refine wpQuiet_load1 22 _ rfl (by first | exact want_n rfl | exact want_g _ _ _ rfl rfl rfl) (w.heap.size) _ rfl 266 s.at _ rw_i16 P'.out (by omega) ?_; (first | rw [Sh.at_0] | rw [Sh.at_1] | rw [Sh.at_wet1 _ _ (8 * y + x) (by omega) (by omega)] | rw [Sh.at_dye1 _ _ (24 * y + 3 * x + k) (by omega) (by omega)]); simp only [Act.put, List.setIfInBounds_toArray, List.set_cons_succ, List.set_cons_zero]) | (refine wpQuiet_loadmid 47 _ rfl (by first | exact want_n rfl | exact want_g _ _ _ rfl rfl rfl) (w.heap.size) _ rfl 266 266 s.at _ rw_sheet size_sheet P'.out (by omega) ?_; rw [sh_row]; simp only [Act.put, List.setIfInBounds_toArray, List.set_cons_succ, List.set_cons_zero]) | (refine wpQuiet_load1 24 _ rfl (by first | exact want_n rfl | exact want_g _ _ _ rfl rfl rfl) (w.heap.size + 1) _ rfl 2 (spAt x y) _ rw_i8 R'.out (by omega) ?_; (first | rw [spAt_0] | rw [spAt_1]); simp only [Act.put, List.setIfInBounds_toArray, List.set_cons_succ, List.set_cons_zero]) | (refine wpQuiet_loadmid 51 _ rfl (by first | exact want_n rfl | exact want_g _ _ _ rfl rfl rfl) (w.heap.size + 1) _ rfl 2 2 (spAt x y) _ rw_spot size_spot R'.out (by omega) ?_; rw [sp_row]; simp only [Act.put, List.setIfInBounds_toArray, List.set_cons_succ, List.set_cons_zero]) | go_big_quiet_step (first | (go_at_call 134; exact cls_call _ (fun w hw => HA.out w (E.out.next hw))) | (go_at_call 110; exact cls_call _ (fun w hw => HX.out w))))); refine wpQuiet_nil ?_; intro Wn hb; replace P := Go.Lib.hid (row_next hb P.out); replace R := Go.Lib.hid (row_next hb R.out); replace hB := Go.Lib.hid (below_next hB.out hb); replace E := Go.Lib.hid (E.out.next hb); clear hb P' R')
    | (refine list_at 23 rfl ?_; intro W hW; rw [hW] at hB E P R; clear hW; have P' := Go.Lib.hid (cls_row' P.out); have R' := Go.Lib.hid (cls_row' R.out); (repeat (first | go_big_quiet_skip | (refine wpQuiet_load1 22 _ rfl (by first | exact want_n rfl | exact want_g _ _ _ rfl rfl rfl) (w.heap.size) _ rfl 266 s.at _ rw_i16 P'.out (by omega) ?_; (first | rw [Sh.at_0] | rw [Sh.at_1] | rw [Sh.at_wet1 _ _ (8 * y + x) (by omega) (by omega)] | rw [Sh.at_dye1 _ _ (24 * y + 3 * x + k) (by omega) (by omega)]); simp only [Act.put, List.setIfInBounds_toArray, List.set_cons_succ, List.set_cons_zero]) | (refine wpQuiet_loadmid 47 _ rfl (by first | exact want_n rfl | exact want_g _ _ _ rfl rfl rfl) (w.heap.size) _ rfl 266 266 s.at _ rw_sheet size_sheet P'.out (by omega) ?_; rw [sh_row]; simp only [Act.put, List.setIfInBounds_toArray, List.set_cons_succ, List.set_cons_zero]) | (refine wpQuiet_load1 24 _ rfl (by first | exact want_n rfl | exact want_g _ _ _ rfl rfl rfl) (w.heap.size + 1) _ rfl 2 (spAt x y) _ rw_i8 R'.out (by omega) ?_; (first | rw [spAt_0] | rw [spAt_1]); simp only [Act.put, List.setIfInBounds_toArray, List.set_cons_succ, List.set_cons_zero]) | (refine wpQuiet_loadmid 51 _ rfl (by first | exact want_n rfl | exact want_g _ _ _ rfl rfl rfl) (w.heap.size + 1) _ rfl 2 2 (spAt x y) _ rw_spot size_spot R'.out (by omega) ?_; rw [sp_row]; simp only [Act.put, List.setIfInBounds_toArray, List.set_cons_succ, List.set_cons_zero]) | go_big_quiet_step (first | (go_at_call 134; exact cls_call _ (fun w hw => HA.out w (E.out.next hw))) | (go_at_call 110; exact cls_call _ (fun w hw => HX.out w))))); refine wpQuiet_nil ?_; intro Wn hb; replace P := Go.Lib.hid (row_next hb P.out); replace R := Go.Lib.hid (row_next hb R.out); replace hB := Go.Lib.hid (below_next hB.out hb); replace E := Go.Lib.hid (E.out.next hb); clear hb P' R'))
  (refine region_at (by kernel_rfl) (by kernel_rfl) ?_; intro W hW; rw [hW] at hB E P R; clear hW; have P' := Go.Lib.hid (cls_row' P.out); have R' := Go.Lib.hid (cls_row' R.out); (repeat (first | go_big_quiet_skip | (refine wpQuiet_load1 22 _ rfl (by first | exact want_n rfl | exact want_g _ _ _ rfl rfl rfl) (w.heap.size) _ rfl 266 s.at _ rw_i16 P'.out (by omega) ?_; (first | rw [Sh.at_0] | rw [Sh.at_1] | rw [Sh.at_wet1 _ _ (8 * y + x) (by omega) (by omega)] | rw [Sh.at_dye1 _ _ (24 * y + 3 * x + k) (by omega) (by omega)]); simp only [Act.put, List.setIfInBounds_toArray, List.set_cons_succ, List.set_cons_zero]) | (refine wpQuiet_loadmid 47 _ rfl (by first | exact want_n rfl | exact want_g _ _ _ rfl rfl rfl) (w.heap.size) _ rfl 266 266 s.at _ rw_sheet size_sheet P'.out (by omega) ?_; rw [sh_row]; simp only [Act.put, List.setIfInBounds_toArray, List.set_cons_succ, List.set_cons_zero]) | (refine wpQuiet_load1 24 _ rfl (by first | exact want_n rfl | exact want_g _ _ _ rfl rfl rfl) (w.heap.size + 1) _ rfl 2 (spAt x y) _ rw_i8 R'.out (by omega) ?_; (first | rw [spAt_0] | rw [spAt_1]); simp only [Act.put, List.setIfInBounds_toArray, List.set_cons_succ, List.set_cons_zero]) | (refine wpQuiet_loadmid 51 _ rfl (by first | exact want_n rfl | exact want_g _ _ _ rfl rfl rfl) (w.heap.size + 1) _ rfl 2 2 (spAt x y) _ rw_spot size_spot R'.out (by omega) ?_; rw [sp_row]; simp only [Act.put, List.setIfInBounds_toArray, List.set_cons_succ, List.set_cons_zero]) | go_big_quiet_step (fail))); refine wpQuiet_nil ?_; intro Wn hb; replace P := Go.Lib.hid (row_next hb P.out); replace R := Go.Lib.hid (row_next hb R.out); replace hB := Go.Lib.hid (below_next hB.out hb); replace E := Go.Lib.hid (E.out.next hb); clear hb P' R')
  go_wp2_with (first
    | (refine wpList_ld1 90 _ rfl (by first | exact want_n rfl | exact want_g _ _ _ rfl rfl rfl) 1 0 rfl 1 (fun _ => errP e 1) _ rw_err E.out.v1 (by omega) ?_)
    | (refine wpList_ld1 90 _ rfl (by first | exact want_n rfl | exact want_g _ _ _ rfl rfl rfl) 0 0 rfl 1 (fun _ => errP e 2) _ rw_err E.out.v2 (by omega) ?_)
    | (refine wpList_ld1 90 _ rfl (by first | exact want_n rfl | exact want_g _ _ _ rfl rfl rfl) 2 0 rfl 1 (fun _ => errP e 3) _ rw_err E.out.v3 (by omega) ?_)
    | (refine wpList_ld1 90 _ rfl (by first | exact want_n rfl | exact want_g _ _ _ rfl rfl rfl) 3 0 rfl 1 (fun _ => errP e 4) _ rw_err E.out.v4 (by omega) ?_)
    | (refine wpList_ld1 90 _ rfl (by first | exact want_n rfl | exact want_g _ _ _ rfl rfl rfl) 4 0 rfl 1 (fun _ => errP e 5) _ rw_err E.out.v5 (by omega) ?_)
    | (refine wpList_ld1 90 _ rfl (by first | exact want_n rfl | exact want_g _ _ _ rfl rfl rfl) 5 0 rfl 1 (fun _ => errP e 7) _ rw_err E.out.v7 (by omega) ?_))
  go_ret
  exact ⟨rfl, hB.out⟩
set_option maxHeartbeats 2000000 in
theorem drop_ok (s : Sh) (x y : Nat) (k n m : Int) (hf : s.fit) (hx : x < 8) (hy : y < 8) (hv : okI s = true) (hh : hasB s x y = true) (hfi : fineB k n m = true) (hw : waxB s x y = false) (hl : ¬ 1000 < s.dye (24 * y + 3 * x + k.toNat) + n) (hl2 : ¬ 200 < s.wet (8 * y + x) + m) (e : ErrE) (w : World) (hE : Errs e w) : Calls Tryd.prog 101 #[.agg s.row, .agg #[.int .i8 x, .int .i8 y], .int .i64 k, .int .i64 n, .int .i64 m] w fun o w' => o = .returned (.nilIface) ∧ Below w.heap.size w w' := by
  obtain ⟨hk, hn, hm⟩ := fine_parts hfi
  have hkk : ∃ i : Nat, k = i ∧ i < 3 := ⟨k.toNat, by simp [inkB] at hk; omega, by simp [inkB] at hk; omega⟩
  obtain ⟨k, rfl, hk3⟩ := hkk
  have HA := Go.Lib.hid fun w hE => amounts_ok s x y k n m hv hh hk hn hm e w hE
  have HX0 := fun w => waxed_any s x y hx hy w
  rw [hw] at HX0
  have HX := Go.Lib.hid HX0
  clear HX0
  simp only [amtB, watB, Bool.and_eq_true, decide_eq_true_eq] at hn hm
  clear hfi hk
  have hdb := hf.dye (24 * y + 3 * x + k) (by omega)
  have hwb := hf.wet (8 * y + x) (by omega)
  have hxI : (x : Int) < 8 := by omega
  have hyI : (y : Int) < 8 := by omega
  have hkI : (k : Int) < 3 := by omega
  have t1 : decide (1000 < s.dye (24 * y + 3 * x + k) + n) = false := by simpa using hl
  have t2 : decide (200 < s.wet (8 * y + x) + m) = false := by simpa using hl2
  clear hl hl2
  rw [sp_vrow]
  have hB : Hid (Below w.heap.size w ((w.alloc (.cells (vrow 266 s.at) 47)).alloc (.cells (vrow 2 (spAt x y)) 51))) := (((Below.refl w.heap.size w).alloc (by simp <;> omega) _).alloc (by simp <;> omega) _)
  have P : Hid (((w.alloc (.cells (vrow 266 s.at) 47)).alloc (.cells (vrow 2 (spAt x y)) 51)).heap[(w.heap.size)]? = some (.cells (vrow 266 s.at) 47)) := heap_past _ _ _ _ (by first | omega | (simp <;> omega)) (heap_at _ _ _ (by simp))
  have R : Hid (((w.alloc (.cells (vrow 266 s.at) 47)).alloc (.cells (vrow 2 (spAt x y)) 51)).heap[(w.heap.size + 1)]? = some (.cells (vrow 2 (spAt x y)) 51)) := heap_at _ _ _ (by simp)
  have E : Hid (Errs e ((w.alloc (.cells (vrow 266 s.at) 47)).alloc (.cells (vrow 2 (spAt x y)) 51))) := ((hE).alloc _).alloc _
  go_enter Tryd.func101, Tryd.ntmps101
  go_wp2_with (first
    | (refine wpList_ld1 90 _ rfl (by first | exact want_n rfl | exact want_g _ _ _ rfl rfl rfl) 1 0 rfl 1 (fun _ => errP e 1) _ rw_err E.out.v1 (by omega) ?_)
    | (refine wpList_ld1 90 _ rfl (by first | exact want_n rfl | exact want_g _ _ _ rfl rfl rfl) 0 0 rfl 1 (fun _ => errP e 2) _ rw_err E.out.v2 (by omega) ?_)
    | (refine wpList_ld1 90 _ rfl (by first | exact want_n rfl | exact want_g _ _ _ rfl rfl rfl) 2 0 rfl 1 (fun _ => errP e 3) _ rw_err E.out.v3 (by omega) ?_)
    | (refine wpList_ld1 90 _ rfl (by first | exact want_n rfl | exact want_g _ _ _ rfl rfl rfl) 3 0 rfl 1 (fun _ => errP e 4) _ rw_err E.out.v4 (by omega) ?_)
    | (refine wpList_ld1 90 _ rfl (by first | exact want_n rfl | exact want_g _ _ _ rfl rfl rfl) 4 0 rfl 1 (fun _ => errP e 5) _ rw_err E.out.v5 (by omega) ?_)
    | (refine wpList_ld1 90 _ rfl (by first | exact want_n rfl | exact want_g _ _ _ rfl rfl rfl) 5 0 rfl 1 (fun _ => errP e 7) _ rw_err E.out.v7 (by omega) ?_)
    | (go_at_call 134; (refine (HA.out _ E.out).mono ?_; rintro e w1 ⟨rfl, hb⟩; replace P := Go.Lib.hid (row_next hb P.out); replace R := Go.Lib.hid (row_next hb R.out); replace hB := Go.Lib.hid (below_next hB.out hb); replace E := Go.Lib.hid (E.out.next hb); clear hb ))
    | (go_at_call 110; (refine (HX.out _).mono ?_; rintro e w1 ⟨rfl, hb⟩; replace P := Go.Lib.hid (row_next hb P.out); replace R := Go.Lib.hid (row_next hb R.out); replace hB := Go.Lib.hid (below_next hB.out hb); replace E := Go.Lib.hid (E.out.next hb); clear hb ))
    | (refine list_at 14 rfl ?_; intro W hW; rw [hW] at hB E P R; clear hW; have P' := Go.Lib.hid (cls_row' P.out); have R' := Go.Lib.hid (cls_row' R.out); (repeat (first | go_big_quiet_skip | (refine wpQuiet_load1 22 _ rfl (by first | exact want_n rfl | exact want_g _ _ _ rfl rfl rfl) (w.heap.size) _ rfl 266 s.at _ rw_i16 P'.out (by omega) ?_; (first | rw [Sh.at_0] | rw [Sh.at_1] | rw [Sh.at_wet1 _ _ (8 * y + x) (by omega) (by omega)] | rw [Sh.at_dye1 _ _ (24 * y + 3 * x + k) (by omega) (by omega)]); simp only [Act.put, List.setIfInBounds_toArray, List.set_cons_succ, List.set_cons_zero]) | (refine wpQuiet_loadmid 47 _ rfl (by first | exact want_n rfl | exact want_g _ _ _ rfl rfl rfl) (w.heap.size) _ rfl 266 266 s.at _ rw_sheet size_sheet P'.out (by omega) ?_; rw [sh_row]; simp only [Act.put, List.setIfInBounds_toArray, List.set_cons_succ, List.set_cons_zero]) | (refine wpQuiet_load1 24 _ rfl (by first | exact want_n rfl | exact want_g _ _ _ rfl rfl rfl) (w.heap.size + 1) _ rfl 2 (spAt x y) _ rw_i8 R'.out (by omega) ?_; (first | rw [spAt_0] | rw [spAt_1]); simp only [Act.put, List.setIfInBounds_toArray, List.set_cons_succ, List.set_cons_zero]) | (refine wpQuiet_loadmid 51 _ rfl (by first | exact want_n rfl | exact want_g _ _ _ rfl rfl rfl) (w.heap.size + 1) _ rfl 2 2 (spAt x y) _ rw_spot size_spot R'.out (by omega) ?_; rw [sp_row]; simp only [Act.put, List.setIfInBounds_toArray, List.set_cons_succ, List.set_cons_zero]) | go_big_quiet_step (first | (go_at_call 134; exact cls_call _ (fun w hw => HA.out w (E.out.next hw))) | (go_at_call 110; exact cls_call _ (fun w hw => HX.out w))))); refine wpQuiet_nil ?_; intro Wn hb; replace P := Go.Lib.hid (row_next hb P.out); replace R := Go.Lib.hid (row_next hb R.out); replace hB := Go.Lib.hid (below_next hB.out hb); replace E := Go.Lib.hid (E.out.next hb); clear hb P' R')
    | (refine list_at 23 rfl ?_; intro W hW; rw [hW] at hB E P R; clear hW; have P' := Go.Lib.hid (cls_row' P.out); have R' := Go.Lib.hid (cls_row' R.out); (repeat (first | go_big_quiet_skip | (refine wpQuiet_load1 22 _ rfl (by first | exact want_n rfl | exact want_g _ _ _ rfl rfl rfl) (w.heap.size) _ rfl 266 s.at _ rw_i16 P'.out (by omega) ?_; (first | rw [Sh.at_0] | rw [Sh.at_1] | rw [Sh.at_wet1 _ _ (8 * y + x) (by omega) (by omega)] | rw [Sh.at_dye1 _ _ (24 * y + 3 * x + k) (by omega) (by omega)]); simp only [Act.put, List.setIfInBounds_toArray, List.set_cons_succ, List.set_cons_zero]) | (refine wpQuiet_loadmid 47 _ rfl (by first | exact want_n rfl | exact want_g _ _ _ rfl rfl rfl) (w.heap.size) _ rfl 266 266 s.at _ rw_sheet size_sheet P'.out (by omega) ?_; rw [sh_row]; simp only [Act.put, List.setIfInBounds_toArray, List.set_cons_succ, List.set_cons_zero]) | (refine wpQuiet_load1 24 _ rfl (by first | exact want_n rfl | exact want_g _ _ _ rfl rfl rfl) (w.heap.size + 1) _ rfl 2 (spAt x y) _ rw_i8 R'.out (by omega) ?_; (first | rw [spAt_0] | rw [spAt_1]); simp only [Act.put, List.setIfInBounds_toArray, List.set_cons_succ, List.set_cons_zero]) | (refine wpQuiet_loadmid 51 _ rfl (by first | exact want_n rfl | exact want_g _ _ _ rfl rfl rfl) (w.heap.size + 1) _ rfl 2 2 (spAt x y) _ rw_spot size_spot R'.out (by omega) ?_; rw [sp_row]; simp only [Act.put, List.setIfInBounds_toArray, List.set_cons_succ, List.set_cons_zero]) | go_big_quiet_step (first | (go_at_call 134; exact cls_call _ (fun w hw => HA.out w (E.out.next hw))) | (go_at_call 110; exact cls_call _ (fun w hw => HX.out w))))); refine wpQuiet_nil ?_; intro Wn hb; replace P := Go.Lib.hid (row_next hb P.out); replace R := Go.Lib.hid (row_next hb R.out); replace hB := Go.Lib.hid (below_next hB.out hb); replace E := Go.Lib.hid (E.out.next hb); clear hb P' R'))
  (refine region_at (by kernel_rfl) (by kernel_rfl) ?_; intro W hW; rw [hW] at hB E P R; clear hW; have P' := Go.Lib.hid (cls_row' P.out); have R' := Go.Lib.hid (cls_row' R.out); (repeat (first | go_big_quiet_skip | (refine wpQuiet_load1 22 _ rfl (by first | exact want_n rfl | exact want_g _ _ _ rfl rfl rfl) (w.heap.size) _ rfl 266 s.at _ rw_i16 P'.out (by omega) ?_; (first | rw [Sh.at_0] | rw [Sh.at_1] | rw [Sh.at_wet1 _ _ (8 * y + x) (by omega) (by omega)] | rw [Sh.at_dye1 _ _ (24 * y + 3 * x + k) (by omega) (by omega)]); simp only [Act.put, List.setIfInBounds_toArray, List.set_cons_succ, List.set_cons_zero]) | (refine wpQuiet_loadmid 47 _ rfl (by first | exact want_n rfl | exact want_g _ _ _ rfl rfl rfl) (w.heap.size) _ rfl 266 266 s.at _ rw_sheet size_sheet P'.out (by omega) ?_; rw [sh_row]; simp only [Act.put, List.setIfInBounds_toArray, List.set_cons_succ, List.set_cons_zero]) | (refine wpQuiet_load1 24 _ rfl (by first | exact want_n rfl | exact want_g _ _ _ rfl rfl rfl) (w.heap.size + 1) _ rfl 2 (spAt x y) _ rw_i8 R'.out (by omega) ?_; (first | rw [spAt_0] | rw [spAt_1]); simp only [Act.put, List.setIfInBounds_toArray, List.set_cons_succ, List.set_cons_zero]) | (refine wpQuiet_loadmid 51 _ rfl (by first | exact want_n rfl | exact want_g _ _ _ rfl rfl rfl) (w.heap.size + 1) _ rfl 2 2 (spAt x y) _ rw_spot size_spot R'.out (by omega) ?_; rw [sp_row]; simp only [Act.put, List.setIfInBounds_toArray, List.set_cons_succ, List.set_cons_zero]) | go_big_quiet_step (fail))); refine wpQuiet_nil ?_; intro Wn hb; replace P := Go.Lib.hid (row_next hb P.out); replace R := Go.Lib.hid (row_next hb R.out); replace hB := Go.Lib.hid (below_next hB.out hb); replace E := Go.Lib.hid (E.out.next hb); clear hb P' R')
  go_wp2_with (first
    | (refine wpList_ld1 90 _ rfl (by first | exact want_n rfl | exact want_g _ _ _ rfl rfl rfl) 1 0 rfl 1 (fun _ => errP e 1) _ rw_err E.out.v1 (by omega) ?_)
    | (refine wpList_ld1 90 _ rfl (by first | exact want_n rfl | exact want_g _ _ _ rfl rfl rfl) 0 0 rfl 1 (fun _ => errP e 2) _ rw_err E.out.v2 (by omega) ?_)
    | (refine wpList_ld1 90 _ rfl (by first | exact want_n rfl | exact want_g _ _ _ rfl rfl rfl) 2 0 rfl 1 (fun _ => errP e 3) _ rw_err E.out.v3 (by omega) ?_)
    | (refine wpList_ld1 90 _ rfl (by first | exact want_n rfl | exact want_g _ _ _ rfl rfl rfl) 3 0 rfl 1 (fun _ => errP e 4) _ rw_err E.out.v4 (by omega) ?_)
    | (refine wpList_ld1 90 _ rfl (by first | exact want_n rfl | exact want_g _ _ _ rfl rfl rfl) 4 0 rfl 1 (fun _ => errP e 5) _ rw_err E.out.v5 (by omega) ?_)
    | (refine wpList_ld1 90 _ rfl (by first | exact want_n rfl | exact want_g _ _ _ rfl rfl rfl) 5 0 rfl 1 (fun _ => errP e 7) _ rw_err E.out.v7 (by omega) ?_))
  go_ret
  exact ⟨rfl, hB.out⟩
end Go.Proofs.YthkkbkpfomhdeaaDoor
