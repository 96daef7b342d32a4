import Derived.Test.YtfdjlflnhhiecaaDoorG1
import Derived.Test.YtfdjlflnhhiecaaDoorReaders2
import Derived.Test.YtfdjlflnhhiecaaDoorBr
namespace Go.Proofs.YtfdjlflnhhiecaaDoor
open Go.RowKit
set_option maxRecDepth 100000
set_option linter.unusedVariables false
def onB (r : Int) (x : Nat) : Int := bits BinOp.or IntKind.u8 r (2 ^ x % 256)
def offB (r : Int) (x : Nat) : Int := bits BinOp.andNot IntKind.u8 r (2 ^ x % 256)
theorem on_off_nat : ∀ r : Nat, r < 256 → ∀ x : Nat, x < 8 → onB (offB (r : Int) x) x = onB (r : Int) x := by decide +kernel
theorem on_off (r : Int) (x : Nat) (hr : 0 ≤ r ∧ r ≤ 255) (hx : x < 8) : onB (offB r x) x = onB r x := by
  obtain ⟨n, rfl⟩ : ∃ n : Nat, r = n := ⟨r.toNat, by omega⟩
  exact on_off_nat n (by omega) x hx
def Sh.setWax (s : Sh) (y : Nat) (v : Int) : Sh := { s with wax := fun i => if i = y then v else s.wax i }
theorem wax_at (s : Sh) (y : Nat) (hy : y < 8) (v : Int) : vrow 266 (over s.at (258 + y) 1 fun _ => .int .u8 v) = vrow 266 (s.setWax y v).at := vrow_ext _ _ _ fun i hi => by
  unfold over Sh.at Sh.setWax
  by_cases h : 258 + y ≤ i ∧ i < 258 + y + 1
  · have h0 : ¬ i = 0 := by omega
    have h1 : ¬ i = 1 := by omega
    have h2 : ¬ i < 66 := by omega
    have h3 : ¬ i < 258 := by omega
    have h4 : i - 258 = y := by omega
    simp [h, h0, h1, h2, h3, h4]
  · rw [if_neg h]
    by_cases h0 : i = 0
    · simp [h0]
    · by_cases h1 : i = 1
      · simp [h1]
      · by_cases h2 : i < 66
        · simp [h0, h1, h2]
        · by_cases h3 : i < 258
          · simp [h0, h1, h2, h3]
          · have h4 : ¬ i - 258 = y := by omega
            simp [h0, h1, h2, h3, h4]
theorem setWax_two (s : Sh) (y : Nat) (u v : Int) : (s.setWax y u).setWax y v = s.setWax y v := by
  unfold Sh.setWax
  congr 1
  funext i
  by_cases h : i = y <;> simp [h]
set_option maxHeartbeats 400000 in
theorem withWax_on (r : Int) (x : Nat) (hx : x < 8) (h1 : 0 ≤ r ∧ r ≤ 255) (w : World) : Calls Tryd.prog 59 #[.int .u8 r, .int .i8 x, .bool true] w fun e w' => e = .returned (.int .u8 (onB r x)) ∧ Below w.heap.size w w' := by
  have hxI : (x : Int) < 8 := by omega
  go_enter Tryd.func59, Tryd.ntmps59
  go_wp2
  go_ret
  exact ⟨rfl, Below.refl _ _⟩
set_option maxHeartbeats 400000 in
theorem withWax_off (r : Int) (x : Nat) (hx : x < 8) (h1 : 0 ≤ r ∧ r ≤ 255) (w : World) : Calls Tryd.prog 59 #[.int .u8 r, .int .i8 x, .bool false] w fun e w' => e = .returned (.int .u8 (offB r x)) ∧ Below w.heap.size w w' := by
  have hxI : (x : Int) < 8 := by omega
  go_enter Tryd.func59, Tryd.ntmps59
  go_wp2
  go_ret
  exact ⟨rfl, Below.refl _ _⟩
set_option maxHeartbeats 400000 in
theorem checkWax_bad (s : Sh) (x y : Int) (hv : okI s = false) (e : ErrE) (w : World) (hE : Errs e w) (hf : s.fit := by assumption) : Calls Tryd.prog 58 #[.agg s.row, .agg #[.int .i8 x, .int .i8 y]] w fun o w' => o = .returned (errP e 1) ∧ Below w.heap.size w w' := by
  rw [sp_vrow]
  have hB : Hid (Below w.heap.size w ((w.alloc (.cells (vrow 266 s.at) 36)).alloc (.cells (vrow 2 (spAt x y)) 38))) := (((Below.refl w.heap.size w).alloc (by simp <;> omega) _).alloc (by simp <;> omega) _)
  have P : Hid (((w.alloc (.cells (vrow 266 s.at) 36)).alloc (.cells (vrow 2 (spAt x y)) 38)).heap[(w.heap.size)]? = some (.cells (vrow 266 s.at) 36)) := heap_past _ _ _ _ (by first | omega | (simp <;> omega)) (heap_at _ _ _ (by simp))
  have R : Hid (((w.alloc (.cells (vrow 266 s.at) 36)).alloc (.cells (vrow 2 (spAt x y)) 38)).heap[(w.heap.size + 1)]? = some (.cells (vrow 2 (spAt x y)) 38)) := heap_at _ _ _ (by simp)
  have E : Hid (Errs e ((w.alloc (.cells (vrow 266 s.at) 36)).alloc (.cells (vrow 2 (spAt x y)) 38))) := ((hE).alloc _).alloc _
  go_enter Tryd.func58, Tryd.ntmps58
  go_wp2_with (first
    | (refine wpList_ld1 66 _ rfl (by first | exact want_n rfl | exact want_g _ _ _ rfl rfl rfl) 2 0 rfl 1 (fun _ => errP e 1) _ rw_err E.out.v1 (by omega) ?_)
    | (refine wpList_ld1 66 _ rfl (by first | exact want_n rfl | exact want_g _ _ _ rfl rfl rfl) 1 0 rfl 1 (fun _ => errP e 2) _ rw_err E.out.v2 (by omega) ?_)
    | (refine wpList_ld1 66 _ rfl (by first | exact want_n rfl | exact want_g _ _ _ rfl rfl rfl) 3 0 rfl 1 (fun _ => errP e 3) _ rw_err E.out.v3 (by omega) ?_)
    | (refine wpList_ld1 66 _ rfl (by first | exact want_n rfl | exact want_g _ _ _ rfl rfl rfl) 4 0 rfl 1 (fun _ => errP e 4) _ rw_err E.out.v4 (by omega) ?_)
    | (refine wpList_ld1 66 _ rfl (by first | exact want_n rfl | exact want_g _ _ _ rfl rfl rfl) 5 0 rfl 1 (fun _ => errP e 5) _ rw_err E.out.v5 (by omega) ?_)
    | (go_at_call 46; (refine (checkCell_bad s x y hv e _ E.out).mono ?_; rintro e w1 ⟨rfl, hb⟩; replace P := Go.Lib.hid (row_next hb P.out); replace R := Go.Lib.hid (row_next hb R.out); replace hB := Go.Lib.hid (below_next hB.out hb); replace E := Go.Lib.hid (E.out.next hb); clear hb ))
    | (refine list_at 6 rfl ?_; intro W hW; rw [hW] at hB E P R; clear hW; have P' := Go.Lib.hid (cls_row' P.out); have R' := Go.Lib.hid (cls_row' R.out); (repeat (first | go_big_quiet_skip | (refine wpQuiet_loadmid 36 _ rfl (by first | exact want_n rfl | exact want_g _ _ _ rfl rfl rfl) (w.heap.size) _ rfl 266 266 s.at _ rw_sheet size_sheet P'.out (by omega) ?_; rw [sh_row]; simp only [Act.put, List.setIfInBounds_toArray, List.set_cons_succ, List.set_cons_zero]) | (refine wpQuiet_loadmid 38 _ rfl (by first | exact want_n rfl | exact want_g _ _ _ rfl rfl rfl) (w.heap.size + 1) _ rfl 2 2 (spAt x y) _ rw_spot size_spot R'.out (by omega) ?_; rw [sp_row]; simp only [Act.put, List.setIfInBounds_toArray, List.set_cons_succ, List.set_cons_zero]) | go_big_quiet_step ((go_at_call 46; exact cls_call _ (fun w hw => checkCell_bad s x y hv e w (E.out.next hw)))))); refine wpQuiet_nil ?_; intro Wn hb; replace P := Go.Lib.hid (row_next hb P.out); replace R := Go.Lib.hid (row_next hb R.out); replace hB := Go.Lib.hid (below_next hB.out hb); replace E := Go.Lib.hid (E.out.next hb); clear hb P' R')
    | (refine list_at 12 rfl ?_; intro W hW; rw [hW] at hB E P R; clear hW; have P' := Go.Lib.hid (cls_row' P.out); have R' := Go.Lib.hid (cls_row' R.out); (repeat (first | go_big_quiet_skip | (refine wpQuiet_loadmid 36 _ rfl (by first | exact want_n rfl | exact want_g _ _ _ rfl rfl rfl) (w.heap.size) _ rfl 266 266 s.at _ rw_sheet size_sheet P'.out (by omega) ?_; rw [sh_row]; simp only [Act.put, List.setIfInBounds_toArray, List.set_cons_succ, List.set_cons_zero]) | (refine wpQuiet_loadmid 38 _ rfl (by first | exact want_n rfl | exact want_g _ _ _ rfl rfl rfl) (w.heap.size + 1) _ rfl 2 2 (spAt x y) _ rw_spot size_spot R'.out (by omega) ?_; rw [sp_row]; simp only [Act.put, List.setIfInBounds_toArray, List.set_cons_succ, List.set_cons_zero]) | go_big_quiet_step ((go_at_call 46; exact cls_call _ (fun w hw => checkCell_bad s x y hv e w (E.out.next hw)))))); refine wpQuiet_nil ?_; intro Wn hb; replace P := Go.Lib.hid (row_next hb P.out); replace R := Go.Lib.hid (row_next hb R.out); replace hB := Go.Lib.hid (below_next hB.out hb); replace E := Go.Lib.hid (E.out.next hb); clear hb P' R'))
  go_ret
  exact ⟨rfl, hB.out⟩
set_option maxHeartbeats 400000 in
theorem checkWax_no (s : Sh) (x y : Int) (hv : okI s = true) (hh : hasB s x y = false) (e : ErrE) (w : World) (hE : Errs e w) : Calls Tryd.prog 58 #[.agg s.row, .agg #[.int .i8 x, .int .i8 y]] w fun o w' => o = .returned (errP e 2) ∧ Below w.heap.size w w' := by
  rw [sp_vrow]
  have hB : Hid (Below w.heap.size w ((w.alloc (.cells (vrow 266 s.at) 36)).alloc (.cells (vrow 2 (spAt x y)) 38))) := (((Below.refl w.heap.size w).alloc (by simp <;> omega) _).alloc (by simp <;> omega) _)
  have P : Hid (((w.alloc (.cells (vrow 266 s.at) 36)).alloc (.cells (vrow 2 (spAt x y)) 38)).heap[(w.heap.size)]? = some (.cells (vrow 266 s.at) 36)) := heap_past _ _ _ _ (by first | omega | (simp <;> omega)) (heap_at _ _ _ (by simp))
  have R : Hid (((w.alloc (.cells (vrow 266 s.at) 36)).alloc (.cells (vrow 2 (spAt x y)) 38)).heap[(w.heap.size + 1)]? = some (.cells (vrow 2 (spAt x y)) 38)) := heap_at _ _ _ (by simp)
  have E : Hid (Errs e ((w.alloc (.cells (vrow 266 s.at) 36)).alloc (.cells (vrow 2 (spAt x y)) 38))) := ((hE).alloc _).alloc _
  go_enter Tryd.func58, Tryd.ntmps58
  go_wp2_with (first
    | (refine wpList_ld1 66 _ rfl (by first | exact want_n rfl | exact want_g _ _ _ rfl rfl rfl) 2 0 rfl 1 (fun _ => errP e 1) _ rw_err E.out.v1 (by omega) ?_)
    | (refine wpList_ld1 66 _ rfl (by first | exact want_n rfl | exact want_g _ _ _ rfl rfl rfl) 1 0 rfl 1 (fun _ => errP e 2) _ rw_err E.out.v2 (by omega) ?_)
    | (refine wpList_ld1 66 _ rfl (by first | exact want_n rfl | exact want_g _ _ _ rfl rfl rfl) 3 0 rfl 1 (fun _ => errP e 3) _ rw_err E.out.v3 (by omega) ?_)
    | (refine wpList_ld1 66 _ rfl (by first | exact want_n rfl | exact want_g _ _ _ rfl rfl rfl) 4 0 rfl 1 (fun _ => errP e 4) _ rw_err E.out.v4 (by omega) ?_)
    | (refine wpList_ld1 66 _ rfl (by first | exact want_n rfl | exact want_g _ _ _ rfl rfl rfl) 5 0 rfl 1 (fun _ => errP e 5) _ rw_err E.out.v5 (by omega) ?_)
    | (go_at_call 46; (refine (checkCell_no s x y hv hh e _ E.out).mono ?_; rintro e w1 ⟨rfl, hb⟩; replace P := Go.Lib.hid (row_next hb P.out); replace R := Go.Lib.hid (row_next hb R.out); replace hB := Go.Lib.hid (below_next hB.out hb); replace E := Go.Lib.hid (E.out.next hb); clear hb ))
    | (refine list_at 6 rfl ?_; intro W hW; rw [hW] at hB E P R; clear hW; have P' := Go.Lib.hid (cls_row' P.out); have R' := Go.Lib.hid (cls_row' R.out); (repeat (first | go_big_quiet_skip | (refine wpQuiet_loadmid 36 _ rfl (by first | exact want_n rfl | exact want_g _ _ _ rfl rfl rfl) (w.heap.size) _ rfl 266 266 s.at _ rw_sheet size_sheet P'.out (by omega) ?_; rw [sh_row]; simp only [Act.put, List.setIfInBounds_toArray, List.set_cons_succ, List.set_cons_zero]) | (refine wpQuiet_loadmid 38 _ rfl (by first | exact want_n rfl | exact want_g _ _ _ rfl rfl rfl) (w.heap.size + 1) _ rfl 2 2 (spAt x y) _ rw_spot size_spot R'.out (by omega) ?_; rw [sp_row]; simp only [Act.put, List.setIfInBounds_toArray, List.set_cons_succ, List.set_cons_zero]) | go_big_quiet_step ((go_at_call 46; exact cls_call _ (fun w hw => checkCell_no s x y hv hh e w (E.out.next hw)))))); refine wpQuiet_nil ?_; intro Wn hb; replace P := Go.Lib.hid (row_next hb P.out); replace R := Go.Lib.hid (row_next hb R.out); replace hB := Go.Lib.hid (below_next hB.out hb); replace E := Go.Lib.hid (E.out.next hb); clear hb P' R')
    | (refine list_at 12 rfl ?_; intro W hW; rw [hW] at hB E P R; clear hW; have P' := Go.Lib.hid (cls_row' P.out); have R' := Go.Lib.hid (cls_row' R.out); (repeat (first | go_big_quiet_skip | (refine wpQuiet_loadmid 36 _ rfl (by first | exact want_n rfl | exact want_g _ _ _ rfl rfl rfl) (w.heap.size) _ rfl 266 266 s.at _ rw_sheet size_sheet P'.out (by omega) ?_; rw [sh_row]; simp only [Act.put, List.setIfInBounds_toArray, List.set_cons_succ, List.set_cons_zero]) | (refine wpQuiet_loadmid 38 _ rfl (by first | exact want_n rfl | exact want_g _ _ _ rfl rfl rfl) (w.heap.size + 1) _ rfl 2 2 (spAt x y) _ rw_spot size_spot R'.out (by omega) ?_; rw [sp_row]; simp only [Act.put, List.setIfInBounds_toArray, List.set_cons_succ, List.set_cons_zero]) | go_big_quiet_step ((go_at_call 46; exact cls_call _ (fun w hw => checkCell_no s x y hv hh e w (E.out.next hw)))))); refine wpQuiet_nil ?_; intro Wn hb; replace P := Go.Lib.hid (row_next hb P.out); replace R := Go.Lib.hid (row_next hb R.out); replace hB := Go.Lib.hid (below_next hB.out hb); replace E := Go.Lib.hid (E.out.next hb); clear hb P' R'))
  go_ret
  exact ⟨rfl, hB.out⟩
set_option maxHeartbeats 400000 in
theorem checkWax_wet (s : Sh) (x y : Nat) (hx : x < 8) (hy : y < 8) (hv : okI s = true) (hh : hasB s x y = true) (hb : bareB s x y = false) (e : ErrE) (w : World) (hE : Errs e w) : Calls Tryd.prog 58 #[.agg s.row, .agg #[.int .i8 x, .int .i8 y]] w fun o w' => o = .returned (errP e 4) ∧ Below w.heap.size w w' := by
  have HA0 := fun w => bare_any s x y hx hy w
  rw [hb] at HA0
  have HA := Go.Lib.hid HA0
  clear HA0
  rw [sp_vrow]
  have hB : Hid (Below w.heap.size w ((w.alloc (.cells (vrow 266 s.at) 36)).alloc (.cells (vrow 2 (spAt x y)) 38))) := (((Below.refl w.heap.size w).alloc (by simp <;> omega) _).alloc (by simp <;> omega) _)
  have P : Hid (((w.alloc (.cells (vrow 266 s.at) 36)).alloc (.cells (vrow 2 (spAt x y)) 38)).heap[(w.heap.size)]? = some (.cells (vrow 266 s.at) 36)) := heap_past _ _ _ _ (by first | omega | (simp <;> omega)) (heap_at _ _ _ (by simp))
  have R : Hid (((w.alloc (.cells (vrow 266 s.at) 36)).alloc (.cells (vrow 2 (spAt x y)) 38)).heap[(w.heap.size + 1)]? = some (.cells (vrow 2 (spAt x y)) 38)) := heap_at _ _ _ (by simp)
  have E : Hid (Errs e ((w.alloc (.cells (vrow 266 s.at) 36)).alloc (.cells (vrow 2 (spAt x y)) 38))) := ((hE).alloc _).alloc _
  go_enter Tryd.func58, Tryd.ntmps58
  go_wp2_with (first
    | (refine wpList_ld1 66 _ rfl (by first | exact want_n rfl | exact want_g _ _ _ rfl rfl rfl) 2 0 rfl 1 (fun _ => errP e 1) _ rw_err E.out.v1 (by omega) ?_)
    | (refine wpList_ld1 66 _ rfl (by first | exact want_n rfl | exact want_g _ _ _ rfl rfl rfl) 1 0 rfl 1 (fun _ => errP e 2) _ rw_err E.out.v2 (by omega) ?_)
    | (refine wpList_ld1 66 _ rfl (by first | exact want_n rfl | exact want_g _ _ _ rfl rfl rfl) 3 0 rfl 1 (fun _ => errP e 3) _ rw_err E.out.v3 (by omega) ?_)
    | (refine wpList_ld1 66 _ rfl (by first | exact want_n rfl | exact want_g _ _ _ rfl rfl rfl) 4 0 rfl 1 (fun _ => errP e 4) _ rw_err E.out.v4 (by omega) ?_)
    | (refine wpList_ld1 66 _ rfl (by first | exact want_n rfl | exact want_g _ _ _ rfl rfl rfl) 5 0 rfl 1 (fun _ => errP e 5) _ rw_err E.out.v5 (by omega) ?_)
    | (go_at_call 46; (refine (checkCell_ok s x y hv hh e _ E.out).mono ?_; rintro e w1 ⟨rfl, hb⟩; replace P := Go.Lib.hid (row_next hb P.out); replace R := Go.Lib.hid (row_next hb R.out); replace hB := Go.Lib.hid (below_next hB.out hb); replace E := Go.Lib.hid (E.out.next hb); clear hb ))
    | (go_at_call 81; (refine (HA.out _).mono ?_; rintro e w1 ⟨rfl, hb⟩; replace P := Go.Lib.hid (row_next hb P.out); replace R := Go.Lib.hid (row_next hb R.out); replace hB := Go.Lib.hid (below_next hB.out hb); replace E := Go.Lib.hid (E.out.next hb); clear hb ))
    | (refine list_at 6 rfl ?_; intro W hW; rw [hW] at hB E P R; clear hW; have P' := Go.Lib.hid (cls_row' P.out); have R' := Go.Lib.hid (cls_row' R.out); (repeat (first | go_big_quiet_skip | (refine wpQuiet_loadmid 36 _ rfl (by first | exact want_n rfl | exact want_g _ _ _ rfl rfl rfl) (w.heap.size) _ rfl 266 266 s.at _ rw_sheet size_sheet P'.out (by omega) ?_; rw [sh_row]; simp only [Act.put, List.setIfInBounds_toArray, List.set_cons_succ, List.set_cons_zero]) | (refine wpQuiet_loadmid 38 _ rfl (by first | exact want_n rfl | exact want_g _ _ _ rfl rfl rfl) (w.heap.size + 1) _ rfl 2 2 (spAt x y) _ rw_spot size_spot R'.out (by omega) ?_; rw [sp_row]; simp only [Act.put, List.setIfInBounds_toArray, List.set_cons_succ, List.set_cons_zero]) | go_big_quiet_step (first | (go_at_call 46; exact cls_call _ (fun w hw => checkCell_ok s x y hv hh e w (E.out.next hw))) | (go_at_call 81; exact cls_call _ (fun w hw => HA.out w))))); refine wpQuiet_nil ?_; intro Wn hb; replace P := Go.Lib.hid (row_next hb P.out); replace R := Go.Lib.hid (row_next hb R.out); replace hB := Go.Lib.hid (below_next hB.out hb); replace E := Go.Lib.hid (E.out.next hb); clear hb P' R')
    | (refine list_at 12 rfl ?_; intro W hW; rw [hW] at hB E P R; clear hW; have P' := Go.Lib.hid (cls_row' P.out); have R' := Go.Lib.hid (cls_row' R.out); (repeat (first | go_big_quiet_skip | (refine wpQuiet_loadmid 36 _ rfl (by first | exact want_n rfl | exact want_g _ _ _ rfl rfl rfl) (w.heap.size) _ rfl 266 266 s.at _ rw_sheet size_sheet P'.out (by omega) ?_; rw [sh_row]; simp only [Act.put, List.setIfInBounds_toArray, List.set_cons_succ, List.set_cons_zero]) | (refine wpQuiet_loadmid 38 _ rfl (by first | exact want_n rfl | exact want_g _ _ _ rfl rfl rfl) (w.heap.size + 1) _ rfl 2 2 (spAt x y) _ rw_spot size_spot R'.out (by omega) ?_; rw [sp_row]; simp only [Act.put, List.setIfInBounds_toArray, List.set_cons_succ, List.set_cons_zero]) | go_big_quiet_step (first | (go_at_call 46; exact cls_call _ (fun w hw => checkCell_ok s x y hv hh e w (E.out.next hw))) | (go_at_call 81; exact cls_call _ (fun w hw => HA.out w))))); refine wpQuiet_nil ?_; intro Wn hb; replace P := Go.Lib.hid (row_next hb P.out); replace R := Go.Lib.hid (row_next hb R.out); replace hB := Go.Lib.hid (below_next hB.out hb); replace E := Go.Lib.hid (E.out.next hb); clear hb P' R'))
  go_ret
  exact ⟨rfl, hB.out⟩
set_option maxHeartbeats 400000 in
theorem checkWax_ok (s : Sh) (x y : Nat) (hx : x < 8) (hy : y < 8) (hv : okI s = true) (hh : hasB s x y = true) (hb : bareB s x y = true) (e : ErrE) (w : World) (hE : Errs e w) : Calls Tryd.prog 58 #[.agg s.row, .agg #[.int .i8 x, .int .i8 y]] w fun o w' => o = .returned (.nilIface) ∧ Below w.heap.size w w' := by
  have HA0 := fun w => bare_any s x y hx hy w
  rw [hb] at HA0
  have HA := Go.Lib.hid HA0
  clear HA0
  rw [sp_vrow]
  have hB : Hid (Below w.heap.size w ((w.alloc (.cells (vrow 266 s.at) 36)).alloc (.cells (vrow 2 (spAt x y)) 38))) := (((Below.refl w.heap.size w).alloc (by simp <;> omega) _).alloc (by simp <;> omega) _)
  have P : Hid (((w.alloc (.cells (vrow 266 s.at) 36)).alloc (.cells (vrow 2 (spAt x y)) 38)).heap[(w.heap.size)]? = some (.cells (vrow 266 s.at) 36)) := heap_past _ _ _ _ (by first | omega | (simp <;> omega)) (heap_at _ _ _ (by simp))
  have R : Hid (((w.alloc (.cells (vrow 266 s.at) 36)).alloc (.cells (vrow 2 (spAt x y)) 38)).heap[(w.heap.size + 1)]? = some (.cells (vrow 2 (spAt x y)) 38)) := heap_at _ _ _ (by simp)
  have E : Hid (Errs e ((w.alloc (.cells (vrow 266 s.at) 36)).alloc (.cells (vrow 2 (spAt x y)) 38))) := ((hE).alloc _).alloc _
  go_enter Tryd.func58, Tryd.ntmps58
  go_wp2_with (first
    | (refine wpList_ld1 66 _ rfl (by first | exact want_n rfl | exact want_g _ _ _ rfl rfl rfl) 2 0 rfl 1 (fun _ => errP e 1) _ rw_err E.out.v1 (by omega) ?_)
    | (refine wpList_ld1 66 _ rfl (by first | exact want_n rfl | exact want_g _ _ _ rfl rfl rfl) 1 0 rfl 1 (fun _ => errP e 2) _ rw_err E.out.v2 (by omega) ?_)
    | (refine wpList_ld1 66 _ rfl (by first | exact want_n rfl | exact want_g _ _ _ rfl rfl rfl) 3 0 rfl 1 (fun _ => errP e 3) _ rw_err E.out.v3 (by omega) ?_)
    | (refine wpList_ld1 66 _ rfl (by first | exact want_n rfl | exact want_g _ _ _ rfl rfl rfl) 4 0 rfl 1 (fun _ => errP e 4) _ rw_err E.out.v4 (by omega) ?_)
    | (refine wpList_ld1 66 _ rfl (by first | exact want_n rfl | exact want_g _ _ _ rfl rfl rfl) 5 0 rfl 1 (fun _ => errP e 5) _ rw_err E.out.v5 (by omega) ?_)
    | (go_at_call 46; (refine (checkCell_ok s x y hv hh e _ E.out).mono ?_; rintro e w1 ⟨rfl, hb⟩; replace P := Go.Lib.hid (row_next hb P.out); replace R := Go.Lib.hid (row_next hb R.out); replace hB := Go.Lib.hid (below_next hB.out hb); replace E := Go.Lib.hid (E.out.next hb); clear hb ))
    | (go_at_call 81; (refine (HA.out _).mono ?_; rintro e w1 ⟨rfl, hb⟩; replace P := Go.Lib.hid (row_next hb P.out); replace R := Go.Lib.hid (row_next hb R.out); replace hB := Go.Lib.hid (below_next hB.out hb); replace E := Go.Lib.hid (E.out.next hb); clear hb ))
    | (refine list_at 6 rfl ?_; intro W hW; rw [hW] at hB E P R; clear hW; have P' := Go.Lib.hid (cls_row' P.out); have R' := Go.Lib.hid (cls_row' R.out); (repeat (first | go_big_quiet_skip | (refine wpQuiet_loadmid 36 _ rfl (by first | exact want_n rfl | exact want_g _ _ _ rfl rfl rfl) (w.heap.size) _ rfl 266 266 s.at _ rw_sheet size_sheet P'.out (by omega) ?_; rw [sh_row]; simp only [Act.put, List.setIfInBounds_toArray, List.set_cons_succ, List.set_cons_zero]) | (refine wpQuiet_loadmid 38 _ rfl (by first | exact want_n rfl | exact want_g _ _ _ rfl rfl rfl) (w.heap.size + 1) _ rfl 2 2 (spAt x y) _ rw_spot size_spot R'.out (by omega) ?_; rw [sp_row]; simp only [Act.put, List.setIfInBounds_toArray, List.set_cons_succ, List.set_cons_zero]) | go_big_quiet_step (first | (go_at_call 46; exact cls_call _ (fun w hw => checkCell_ok s x y hv hh e w (E.out.next hw))) | (go_at_call 81; exact cls_call _ (fun w hw => HA.out w))))); refine wpQuiet_nil ?_; intro Wn hb; replace P := Go.Lib.hid (row_next hb P.out); replace R := Go.Lib.hid (row_next hb R.out); replace hB := Go.Lib.hid (below_next hB.out hb); replace E := Go.Lib.hid (E.out.next hb); clear hb P' R')
    | (refine list_at 12 rfl ?_; intro W hW; rw [hW] at hB E P R; clear hW; have P' := Go.Lib.hid (cls_row' P.out); have R' := Go.Lib.hid (cls_row' R.out); (repeat (first | go_big_quiet_skip | (refine wpQuiet_loadmid 36 _ rfl (by first | exact want_n rfl | exact want_g _ _ _ rfl rfl rfl) (w.heap.size) _ rfl 266 266 s.at _ rw_sheet size_sheet P'.out (by omega) ?_; rw [sh_row]; simp only [Act.put, List.setIfInBounds_toArray, List.set_cons_succ, List.set_cons_zero]) | (refine wpQuiet_loadmid 38 _ rfl (by first | exact want_n rfl | exact want_g _ _ _ rfl rfl rfl) (w.heap.size + 1) _ rfl 2 2 (spAt x y) _ rw_spot size_spot R'.out (by omega) ?_; rw [sp_row]; simp only [Act.put, List.setIfInBounds_toArray, List.set_cons_succ, List.set_cons_zero]) | go_big_quiet_step (first | (go_at_call 46; exact cls_call _ (fun w hw => checkCell_ok s x y hv hh e w (E.out.next hw))) | (go_at_call 81; exact cls_call _ (fun w hw => HA.out w))))); refine wpQuiet_nil ?_; intro Wn hb; replace P := Go.Lib.hid (row_next hb P.out); replace R := Go.Lib.hid (row_next hb R.out); replace hB := Go.Lib.hid (below_next hB.out hb); replace E := Go.Lib.hid (E.out.next hb); clear hb P' R'))
  go_ret
  exact ⟨rfl, hB.out⟩
end Go.Proofs.YtfdjlflnhhiecaaDoor
