import Derived.Deep.RegionHeld3
import Derived.Test.YtfhfiaphdgfmnaaDoorArrBase
import Derived.Test.YtfhfiaphdgfmnaaDoorSpots
import Derived.Test.YtfhfiaphdgfmnaaDoorWax2
namespace Go.Proofs.YtfhfiaphdgfmnaaDoor
open Go.RowKit
set_option maxRecDepth 100000
set_option linter.unusedVariables false
set_option linter.unusedSimpArgs false
set_option linter.unusedSimpArgs false
theorem setWax_self (s : Sh) (y : Nat) : s.setWax y (s.wax y) = s := by
  unfold Sh.setWax
  congr 1
  funext i
  by_cases h : i = y <;> simp [h]
set_option maxHeartbeats 40000000 in
theorem copyC (s T : Sh) (ms mt x y u v : Nat) (w : World) (hne : ms ≠ mt) (hs : w.heap[ms]? = some (.cells (vrow 266 s.at) 39)) (ht : w.heap[mt]? = some (.cells (vrow 266 T.at) 39)) (hx : x < 8) (hy : y < 8) (hu : u < 8) (hv : v < 8) : Calls Tryd.prog 88 #[.pointer (some ⟨mt, 0, none⟩), .agg (vrow 2 (spAt x y)), .pointer (some ⟨ms, 0, none⟩), .agg (vrow 2 (spAt u v))] w fun e w' => (∃ r, e = .returned r) ∧ w.grownBy w' (some mt) ∧ w'.heap[mt]? = some (.cells (vrow 266 (copyS s T x y u v).at) 39) := by
  have hxI : (x : Int) < 8 := by omega
  have hyI : (y : Int) < 8 := by omega
  have huI : (u : Int) < 8 := by omega
  have hvI : (v : Int) < 8 := by omega
  have HX0 := fun w hs => lwaxed_any s ms u v w hs hu hv
  have hB : Hid (Below w.heap.size w ((w.alloc (.cells (vrow 2 (spAt x y)) 105)).alloc (.cells (vrow 2 (spAt u v)) 105))) := (((Below.refl w.heap.size w).alloc (by simp <;> omega) _).alloc (by simp <;> omega) _)
  have R : Hid (((w.alloc (.cells (vrow 2 (spAt x y)) 105)).alloc (.cells (vrow 2 (spAt u v)) 105)).heap[(w.heap.size)]? = some (.cells (vrow 2 (spAt x y)) 105)) := heap_past _ _ _ _ (by first | omega | (simp <;> omega)) (heap_at _ _ _ (by simp))
  have Q : Hid (((w.alloc (.cells (vrow 2 (spAt x y)) 105)).alloc (.cells (vrow 2 (spAt u v)) 105)).heap[(w.heap.size + 1)]? = some (.cells (vrow 2 (spAt u v)) 105)) := heap_at _ _ _ (by simp)
  have P : Hid (((w.alloc (.cells (vrow 2 (spAt x y)) 105)).alloc (.cells (vrow 2 (spAt u v)) 105)).heap[ms]? = some (.cells (vrow 266 s.at) 39)) := heap_past _ _ _ _ (by first | (have := row_lt hs; omega) | (have := row_lt hs; simp <;> omega)) (heap_past _ _ _ _ (by first | (have := row_lt hs; omega) | (have := row_lt hs; simp <;> omega)) (hs))
  have M : Hid (((w.alloc (.cells (vrow 2 (spAt x y)) 105)).alloc (.cells (vrow 2 (spAt u v)) 105)).heap[mt]? = some (.cells (vrow 266 T.at) 39)) := heap_past _ _ _ _ (by first | (have := row_lt ht; omega) | (have := row_lt ht; simp <;> omega)) (heap_past _ _ _ _ (by first | (have := row_lt ht; omega) | (have := row_lt ht; simp <;> omega)) (ht))
  have hG : Hid (w.grownBy ((w.alloc (.cells (vrow 2 (spAt x y)) 105)).alloc (.cells (vrow 2 (spAt u v)) 105)) (some mt)) := Go.Lib.hid (grown_alloc (grown_alloc (grown_refl w _) _) _)
  have hms := row_lt hs
  have hmt := row_lt ht
  clear hs ht hB
  go_enter Tryd.func88, Tryd.ntmps88
  go_wp2
  generalize hW1 : (w.alloc _).alloc _ = W1 at R Q P M hG ⊢
  clear hW1
  refine wp_region_still_tail 19 (by kernel_rfl) (by kernel_rfl) ?_
  simp only [List.take_succ_cons, List.take_zero, List.drop_succ_cons, List.drop_zero, World.drew_eq]
  repeat (first
    | (refine wpStill_load1 rfl 23 (.tmp 9) rfl (w.heap.size) (1) rfl 2 (spAt x y) _ _ Tryd.underlying23 rfl R.out (by omega) ?_; rw [spAt_1]; simp only [Act.put, List.setIfInBounds_toArray, List.set_cons_succ, List.set_cons_zero])
    | (refine wpStill_load1 rfl 23 (.tmp 11) rfl (w.heap.size) (0) rfl 2 (spAt x y) _ _ Tryd.underlying23 rfl R.out (by omega) ?_; rw [spAt_0]; simp only [Act.put, List.setIfInBounds_toArray, List.set_cons_succ, List.set_cons_zero])
    | (refine wpStill_load1 rfl 23 (.tmp 14) rfl (w.heap.size + 1) (1) rfl 2 (spAt u v) _ _ Tryd.underlying23 rfl Q.out (by omega) ?_; rw [spAt_1]; simp only [Act.put, List.setIfInBounds_toArray, List.set_cons_succ, List.set_cons_zero])
    | (refine wpStill_load1 rfl 23 (.tmp 16) rfl (w.heap.size + 1) (0) rfl 2 (spAt u v) _ _ Tryd.underlying23 rfl Q.out (by omega) ?_; rw [spAt_0]; simp only [Act.put, List.setIfInBounds_toArray, List.set_cons_succ, List.set_cons_zero])
    | (refine wpStill_load1 rfl 24 (.tmp 21) rfl ms (2 + v * 8 + u) rfl 266 s.at _ _ Tryd.underlying24 rfl P.out (by omega) ?_; rw [Sh.at_wet1 _ _ (8 * v + u) (by omega) (by omega)]; simp only [Act.put, List.setIfInBounds_toArray, List.set_cons_succ, List.set_cons_zero])
    | still_step
    | (refine wpStill_step (fun K hK => ?_); go_simp; simp only [hxI, hyI, huI, hvI, if_true]; go_simp; refine hK _ ?_; clear hK K))
  refine wpStill_nil ?_
  refine wpList_store1 rfl 24 (.tmp 26) (.tmp 22) rfl mt (2 + y * 8 + x) rfl 266 T.at (.int .i16 (s.wet (8 * v + u))) rfl 39 size_i16 M.out (by omega) rfl ?_
  rw [wet_at T _ (8 * y + x) (by omega) (by omega)]
  have M2 := row_set (w := W1.drew) M.out (vrow 266 (T.setWet (8 * y + x) (s.wet (8 * v + u))).at)
  have R2 := row_set' (w := W1.drew) (g := mt) (by omega) R.out (vrow 266 (T.setWet (8 * y + x) (s.wet (8 * v + u))).at)
  have Q2 := row_set' (w := W1.drew) (g := mt) (by omega) Q.out (vrow 266 (T.setWet (8 * y + x) (s.wet (8 * v + u))).at)
  have P2 := row_set' (w := W1.drew) (g := mt) (by omega) P.out (vrow 266 (T.setWet (8 * y + x) (s.wet (8 * v + u))).at)
  have hG2 := grown_set (grown_drew hG.out) (vrow 266 (T.setWet (8 * y + x) (s.wet (8 * v + u))).at)
  clear R Q P M hG
  generalize World.setRow W1.drew _ _ = W2 at R2 Q2 P2 M2 hG2 ⊢
  have R := Go.Lib.hid R2; have Q := Go.Lib.hid Q2; have P := Go.Lib.hid P2; have M := Go.Lib.hid M2; have hG := Go.Lib.hid hG2
  clear R2 Q2 P2 M2 hG2
  go_wp2
  refine wp_region_still_tail 19 (by kernel_rfl) (by kernel_rfl) ?_
  simp only [List.take_succ_cons, List.take_zero, List.drop_succ_cons, List.drop_zero, World.drew_eq]
  repeat (first
    | (refine wpStill_load1 rfl 23 (.tmp 28) rfl (w.heap.size) (1) rfl 2 (spAt x y) _ _ Tryd.underlying23 rfl R.out (by omega) ?_; rw [spAt_1]; simp only [Act.put, List.setIfInBounds_toArray, List.set_cons_succ, List.set_cons_zero])
    | (refine wpStill_load1 rfl 23 (.tmp 30) rfl (w.heap.size) (0) rfl 2 (spAt x y) _ _ Tryd.underlying23 rfl R.out (by omega) ?_; rw [spAt_0]; simp only [Act.put, List.setIfInBounds_toArray, List.set_cons_succ, List.set_cons_zero])
    | (refine wpStill_load1 rfl 23 (.tmp 33) rfl (w.heap.size + 1) (1) rfl 2 (spAt u v) _ _ Tryd.underlying23 rfl Q.out (by omega) ?_; rw [spAt_1]; simp only [Act.put, List.setIfInBounds_toArray, List.set_cons_succ, List.set_cons_zero])
    | (refine wpStill_load1 rfl 23 (.tmp 35) rfl (w.heap.size + 1) (0) rfl 2 (spAt u v) _ _ Tryd.underlying23 rfl Q.out (by omega) ?_; rw [spAt_0]; simp only [Act.put, List.setIfInBounds_toArray, List.set_cons_succ, List.set_cons_zero])
    | (refine wpStill_loadmid rfl 27 (.tmp 40) rfl ms (66 + v * 24 + u * 3) rfl 266 3 s.at 39 _ Tryd.underlying27 rfl size_d3 P.out (by omega) ?_; rw [d3_row s _ (24 * v + 3 * u) (by omega) (by omega)]; simp only [Act.put, List.setIfInBounds_toArray, List.set_cons_succ, List.set_cons_zero])
    | still_step
    | (refine wpStill_step (fun K hK => ?_); go_simp; simp only [hxI, hyI, huI, hvI, if_true]; go_simp; refine hK _ ?_; clear hK K))
  refine wpStill_nil ?_
  refine wpList_storemid rfl 27 (.tmp 45) (.tmp 41) rfl mt (66 + y * 24 + x * 3) rfl 266 3 (T.setWet (8 * y + x) (s.wet (8 * v + u))).at (fun i => .int .i16 (s.dye (24 * v + 3 * u + i))) rfl 39 size_d3 M.out (by omega) (fun i _ => rfl) ?_
  rw [dye3_at (T.setWet (8 * y + x) (s.wet (8 * v + u))) _ (24 * y + 3 * x) (by omega) (by omega)]
  have M2 := row_set (w := W2.drew) M.out (vrow 266 ((T.setWet (8 * y + x) (s.wet (8 * v + u))).setDye3 (24 * y + 3 * x) (fun i => s.dye (24 * v + 3 * u + i))).at)
  have R2 := row_set' (w := W2.drew) (g := mt) (by omega) R.out (vrow 266 ((T.setWet (8 * y + x) (s.wet (8 * v + u))).setDye3 (24 * y + 3 * x) (fun i => s.dye (24 * v + 3 * u + i))).at)
  have Q2 := row_set' (w := W2.drew) (g := mt) (by omega) Q.out (vrow 266 ((T.setWet (8 * y + x) (s.wet (8 * v + u))).setDye3 (24 * y + 3 * x) (fun i => s.dye (24 * v + 3 * u + i))).at)
  have P2 := row_set' (w := W2.drew) (g := mt) (by omega) P.out (vrow 266 ((T.setWet (8 * y + x) (s.wet (8 * v + u))).setDye3 (24 * y + 3 * x) (fun i => s.dye (24 * v + 3 * u + i))).at)
  have hG2 := grown_set (grown_drew hG.out) (vrow 266 ((T.setWet (8 * y + x) (s.wet (8 * v + u))).setDye3 (24 * y + 3 * x) (fun i => s.dye (24 * v + 3 * u + i))).at)
  clear R Q P M hG
  generalize World.setRow W2.drew _ _ = W3 at R2 Q2 P2 M2 hG2 ⊢
  have R := Go.Lib.hid R2; have Q := Go.Lib.hid Q2; have P := Go.Lib.hid P2; have M := Go.Lib.hid M2; have hG := Go.Lib.hid hG2
  clear R2 Q2 P2 M2 hG2
  cases hwb : waxB s u v
  · rw [hwb] at HX0
    have HX := Go.Lib.hid HX0
    have HBx := Go.Lib.hid hwb
    clear HX0 hwb
    go_wp2_with (first
      | (go_at_call 76; (refine (HX.out _ P.out).mono ?_; rintro e w1 ⟨rfl, hb⟩; replace R := Go.Lib.hid (row_next hb R.out); replace Q := Go.Lib.hid (row_next hb Q.out); replace P := Go.Lib.hid (row_next hb P.out); replace M := Go.Lib.hid (row_next hb M.out); replace hG := Go.Lib.hid (grown_next hG.out hb); clear hb ))
      | (refine list_at 47 rfl ?_; intro W hW; rw [hW] at hG R Q P M; clear hW; have R' := Go.Lib.hid (cls_row' R.out); have Q' := Go.Lib.hid (cls_row' Q.out); have P' := Go.Lib.hid (cls_row' P.out); have M' := Go.Lib.hid (cls_row' M.out); (repeat (first | go_big_quiet_skip | (refine wpQuiet_loadmid 105 _ rfl (by first | exact want_n rfl | exact want_g _ _ _ rfl rfl rfl) (w.heap.size + 1) _ rfl 2 2 (spAt u v) _ rw_spot size_spot Q'.out (by omega) ?_; rw [sp_row]; simp only [Act.put, List.setIfInBounds_toArray, List.set_cons_succ, List.set_cons_zero]) | go_big_quiet_step ((go_at_call 76; exact cls_call _ (fun w hw => HX.out w (row_next hw P.out)))))); refine wpQuiet_nil ?_; intro Wn hb; replace R := Go.Lib.hid (row_next hb R.out); replace Q := Go.Lib.hid (row_next hb Q.out); replace P := Go.Lib.hid (row_next hb P.out); replace M := Go.Lib.hid (row_next hb M.out); replace hG := Go.Lib.hid (grown_next hG.out hb); clear hb R' Q' P' M'))
    go_end0
    exact ⟨⟨_, rfl⟩, hG.out, by have e : copyS s T x y u v = ((T.setWet (8 * y + x) (s.wet (8 * v + u))).setDye3 (24 * y + 3 * x) (fun i => s.dye (24 * v + 3 * u + i))) := (by unfold copyS; rw [HBx.out, if_neg (by simp)]; exact setWax_self ((T.setWet (8 * y + x) (s.wet (8 * v + u))).setDye3 (24 * y + 3 * x) (fun i => s.dye (24 * v + 3 * u + i))) y); rw [e]; exact M.out⟩
  · rw [hwb] at HX0
    have HX := Go.Lib.hid HX0
    have HBx := Go.Lib.hid hwb
    clear HX0 hwb
    go_wp2_with (first
      | (go_at_call 76; (refine (HX.out _ P.out).mono ?_; rintro e w1 ⟨rfl, hb⟩; replace R := Go.Lib.hid (row_next hb R.out); replace Q := Go.Lib.hid (row_next hb Q.out); replace P := Go.Lib.hid (row_next hb P.out); replace M := Go.Lib.hid (row_next hb M.out); replace hG := Go.Lib.hid (grown_next hG.out hb); clear hb ))
      | (refine list_at 47 rfl ?_; intro W hW; rw [hW] at hG R Q P M; clear hW; have R' := Go.Lib.hid (cls_row' R.out); have Q' := Go.Lib.hid (cls_row' Q.out); have P' := Go.Lib.hid (cls_row' P.out); have M' := Go.Lib.hid (cls_row' M.out); (repeat (first | go_big_quiet_skip | (refine wpQuiet_loadmid 105 _ rfl (by first | exact want_n rfl | exact want_g _ _ _ rfl rfl rfl) (w.heap.size + 1) _ rfl 2 2 (spAt u v) _ rw_spot size_spot Q'.out (by omega) ?_; rw [sp_row]; simp only [Act.put, List.setIfInBounds_toArray, List.set_cons_succ, List.set_cons_zero]) | go_big_quiet_step ((go_at_call 76; exact cls_call _ (fun w hw => HX.out w (row_next hw P.out)))))); refine wpQuiet_nil ?_; intro Wn hb; replace R := Go.Lib.hid (row_next hb R.out); replace Q := Go.Lib.hid (row_next hb Q.out); replace P := Go.Lib.hid (row_next hb P.out); replace M := Go.Lib.hid (row_next hb M.out); replace hG := Go.Lib.hid (grown_next hG.out hb); clear hb R' Q' P' M'))
    refine wp_region_still_tail 15 (by kernel_rfl) (by kernel_rfl) ?_
    simp only [List.take_succ_cons, List.take_zero, List.drop_succ_cons, List.drop_zero, World.drew_eq]
    repeat (first
      | (refine wpStill_load1 rfl 23 (.tmp 50) rfl (w.heap.size) (1) rfl 2 (spAt x y) _ _ Tryd.underlying23 rfl R.out (by omega) ?_; rw [spAt_1]; simp only [Act.put, List.setIfInBounds_toArray, List.set_cons_succ, List.set_cons_zero])
      | (refine wpStill_load1 rfl 23 (.tmp 56) rfl (w.heap.size) (0) rfl 2 (spAt x y) _ _ Tryd.underlying23 rfl R.out (by omega) ?_; rw [spAt_0]; simp only [Act.put, List.setIfInBounds_toArray, List.set_cons_succ, List.set_cons_zero])
      | (refine wpStill_load1 rfl 5 (.tmp 54) rfl mt (258 + y) rfl 266 ((T.setWet (8 * y + x) (s.wet (8 * v + u))).setDye3 (24 * y + 3 * x) (fun i => s.dye (24 * v + 3 * u + i))).at _ _ Tryd.underlying5 rfl M.out (by omega) ?_; rw [Sh.at_wax1 _ _ (by omega)]; simp only [Act.put, List.setIfInBounds_toArray, List.set_cons_succ, List.set_cons_zero])
      | still_step
      | (refine wpStill_step (fun K hK => ?_); go_simp; simp only [hxI, hyI, huI, hvI, if_true]; go_simp; refine hK _ ?_; clear hK K))
    refine wpStill_nil ?_
    refine wpList_store1 rfl 5 (.tmp 63) (.tmp 60) rfl mt (258 + y) rfl 266 ((T.setWet (8 * y + x) (s.wet (8 * v + u))).setDye3 (24 * y + 3 * x) (fun i => s.dye (24 * v + 3 * u + i))).at (.int .u8 (onB (T.wax y) x)) (by show Value.int .u8 _ = _; unfold onB; rw [← sh_nat x hx]; rfl) 39 size_u8 M.out (by omega) rfl ?_
    rw [wax_at _ y hy]
    go_wp2
    go_end0
    have M2 := row_set (w := Wn.drew) M.out (vrow 266 (((T.setWet (8 * y + x) (s.wet (8 * v + u))).setDye3 (24 * y + 3 * x) (fun i => s.dye (24 * v + 3 * u + i))).setWax y (onB (T.wax y) x)).at)
    exact ⟨⟨_, rfl⟩, grown_set (grown_drew hG.out) _, by rw [copyS, HBx.out, if_pos rfl]; exact M2⟩
end Go.Proofs.YtfhfiaphdgfmnaaDoor
