import Derived.Test.YtfhfiaphdgfmnaaSmall
namespace Go.Proofs.Ytfhfiaphdgfmnaa
open Go.RowKit
set_option maxRecDepth 100000
set_option linter.unusedVariables false
/-- the sheet's numbers fit their kinds -/
structure Sh.fit (s : Sh) : Prop where
  wide : -128 ≤ s.wide ∧ s.wide ≤ 127
  high : -128 ≤ s.high ∧ s.high ≤ 127
  wet : ∀ i, i < 64 → -32768 ≤ s.wet i ∧ s.wet i ≤ 32767
  dye : ∀ i, i < 192 → -32768 ≤ s.dye i ∧ s.dye i ≤ 32767
  wax : ∀ i, i < 8 → 0 ≤ s.wax i ∧ s.wax i ≤ 255
set_option maxHeartbeats 400000 in
theorem is_any (s : Sh) (b : Nat) (x y : Int) (w : World) (hs : w.heap[b]? = some (.cells s.row 40)) (hf : s.fit) (hx : -128 ≤ x ∧ x ≤ 127) (hy : -128 ≤ y ∧ y ≤ 127) : Calls Try.prog 28 #[.pointer (some ⟨b, 0, none⟩), .agg #[.int .i8 x, .int .i8 y]] w fun e w' => e = .returned (.bool (hasB s x y)) ∧ Below w.heap.size w w' := by
  rw [sp_vrow]
  have hf1 := hf.wide; have hf2 := hf.high
  clear hf
  have hB : Hid (Below w.heap.size w (w.alloc (.cells (vrow 2 (spAt x y)) 57))) := ((Below.refl w.heap.size w).alloc (by simp <;> omega) _)
  have R : Hid ((w.alloc (.cells (vrow 2 (spAt x y)) 57)).heap[(w.heap.size)]? = some (.cells (vrow 2 (spAt x y)) 57)) := heap_at _ _ _ (by simp)
  have P : Hid ((w.alloc (.cells (vrow 2 (spAt x y)) 57)).heap[b]? = some (.cells (vrow 266 s.at) 40)) := heap_past _ _ _ _ (by first | (have := row_lt hs; omega) | (have := row_lt hs; simp <;> omega)) (hs)
  by_cases h1 : 0 ≤ x ∧ x ≤ s.wide - 1
  · obtain ⟨h1, h2⟩ := h1
    by_cases h3 : 0 ≤ y ∧ y ≤ s.high - 1
    · obtain ⟨h3, h4⟩ := h3
      go_enter Try.func28, Try.ntmps28
      go_wp2
      (refine region_at (by kernel_rfl) (by kernel_rfl) ?_; intro W hW; rw [hW] at hB P R; clear hW; have P' := Go.Lib.hid (cls_row' P.out); have R' := Go.Lib.hid (cls_row' R.out); (repeat (first | go_big_quiet_skip | (refine wpQuiet_load1 31 _ rfl (by first | exact want_n rfl | exact want_g _ _ _ rfl rfl rfl) b _ rfl 266 s.at _ rw_i8 P'.out (by omega) ?_; (first | rw [Sh.at_0] | rw [Sh.at_1] | rw [Sh.at_wax1 _ _ (by omega)] | rw [Sh.at_wet1 _ _ (8 * y + x) (by omega) (by omega)] | rw [Sh.at_dye1 _ _ (24 * y + 3 * x) (by omega) (by omega)]); simp only [Act.put, List.setIfInBounds_toArray, List.set_cons_succ, List.set_cons_zero]) | (refine wpQuiet_load1 31 _ rfl (by first | exact want_n rfl | exact want_g _ _ _ rfl rfl rfl) (w.heap.size) _ rfl 2 (spAt x y) _ rw_i8 R'.out (by omega) ?_; (first | rw [spAt_0] | rw [spAt_1]); simp only [Act.put, List.setIfInBounds_toArray, List.set_cons_succ, List.set_cons_zero]) | go_big_quiet_step ((go_at_call 27; first | exact cls_call _ (fun w hw => in_yes _ _ _ (by omega) (by omega) w) | exact cls_call _ (fun w hw => in_no _ _ _ (by omega) w))))); refine wpQuiet_nil ?_; intro Wn hb; replace P := Go.Lib.hid (row_next hb P.out); replace R := Go.Lib.hid (row_next hb R.out); replace hB := Go.Lib.hid (below_next hB.out hb); clear hb P' R')
      go_wp2
      go_ret
      exact ⟨by simp [hasB] <;> (first | omega | (intros; omega)), hB.out⟩
    · have h3' : y < 0 ∨ s.high - 1 < y := by omega
      clear h3
      go_enter Try.func28, Try.ntmps28
      go_wp2
      (refine region_at (by kernel_rfl) (by kernel_rfl) ?_; intro W hW; rw [hW] at hB P R; clear hW; have P' := Go.Lib.hid (cls_row' P.out); have R' := Go.Lib.hid (cls_row' R.out); (repeat (first | go_big_quiet_skip | (refine wpQuiet_load1 31 _ rfl (by first | exact want_n rfl | exact want_g _ _ _ rfl rfl rfl) b _ rfl 266 s.at _ rw_i8 P'.out (by omega) ?_; (first | rw [Sh.at_0] | rw [Sh.at_1] | rw [Sh.at_wax1 _ _ (by omega)] | rw [Sh.at_wet1 _ _ (8 * y + x) (by omega) (by omega)] | rw [Sh.at_dye1 _ _ (24 * y + 3 * x) (by omega) (by omega)]); simp only [Act.put, List.setIfInBounds_toArray, List.set_cons_succ, List.set_cons_zero]) | (refine wpQuiet_load1 31 _ rfl (by first | exact want_n rfl | exact want_g _ _ _ rfl rfl rfl) (w.heap.size) _ rfl 2 (spAt x y) _ rw_i8 R'.out (by omega) ?_; (first | rw [spAt_0] | rw [spAt_1]); simp only [Act.put, List.setIfInBounds_toArray, List.set_cons_succ, List.set_cons_zero]) | go_big_quiet_step ((go_at_call 27; first | exact cls_call _ (fun w hw => in_yes _ _ _ (by omega) (by omega) w) | exact cls_call _ (fun w hw => in_no _ _ _ (by omega) w))))); refine wpQuiet_nil ?_; intro Wn hb; replace P := Go.Lib.hid (row_next hb P.out); replace R := Go.Lib.hid (row_next hb R.out); replace hB := Go.Lib.hid (below_next hB.out hb); clear hb P' R')
      go_wp2
      go_ret
      exact ⟨by simp [hasB] <;> (first | omega | (intros; omega)), hB.out⟩
  · have h1' : x < 0 ∨ s.wide - 1 < x := by omega
    clear h1
    go_enter Try.func28, Try.ntmps28
    go_wp2
    (refine region_at (by kernel_rfl) (by kernel_rfl) ?_; intro W hW; rw [hW] at hB P R; clear hW; have P' := Go.Lib.hid (cls_row' P.out); have R' := Go.Lib.hid (cls_row' R.out); (repeat (first | go_big_quiet_skip | (refine wpQuiet_load1 31 _ rfl (by first | exact want_n rfl | exact want_g _ _ _ rfl rfl rfl) b _ rfl 266 s.at _ rw_i8 P'.out (by omega) ?_; (first | rw [Sh.at_0] | rw [Sh.at_1] | rw [Sh.at_wax1 _ _ (by omega)] | rw [Sh.at_wet1 _ _ (8 * y + x) (by omega) (by omega)] | rw [Sh.at_dye1 _ _ (24 * y + 3 * x) (by omega) (by omega)]); simp only [Act.put, List.setIfInBounds_toArray, List.set_cons_succ, List.set_cons_zero]) | (refine wpQuiet_load1 31 _ rfl (by first | exact want_n rfl | exact want_g _ _ _ rfl rfl rfl) (w.heap.size) _ rfl 2 (spAt x y) _ rw_i8 R'.out (by omega) ?_; (first | rw [spAt_0] | rw [spAt_1]); simp only [Act.put, List.setIfInBounds_toArray, List.set_cons_succ, List.set_cons_zero]) | go_big_quiet_step ((go_at_call 27; first | exact cls_call _ (fun w hw => in_yes _ _ _ (by omega) (by omega) w) | exact cls_call _ (fun w hw => in_no _ _ _ (by omega) w))))); refine wpQuiet_nil ?_; intro Wn hb; replace P := Go.Lib.hid (row_next hb P.out); replace R := Go.Lib.hid (row_next hb R.out); replace hB := Go.Lib.hid (below_next hB.out hb); clear hb P' R')
    go_wp2
    go_ret
    exact ⟨by simp [hasB] <;> (first | omega | (intros; omega)), hB.out⟩
set_option maxHeartbeats 400000 in
theorem lwaxed_any (s : Sh) (b : Nat) (x y : Nat) (w : World) (hs : w.heap[b]? = some (.cells s.row 40)) (hx : x < 8) (hy : y < 8) : Calls Try.prog 29 #[.pointer (some ⟨b, 0, none⟩), .agg #[.int .i8 x, .int .i8 y]] w fun e w' => e = .returned (.bool (waxB s x y)) ∧ Below w.heap.size w w' := by
  rw [sp_vrow]
  have hB : Hid (Below w.heap.size w (w.alloc (.cells (vrow 2 (spAt x y)) 57))) := ((Below.refl w.heap.size w).alloc (by simp <;> omega) _)
  have R : Hid ((w.alloc (.cells (vrow 2 (spAt x y)) 57)).heap[(w.heap.size)]? = some (.cells (vrow 2 (spAt x y)) 57)) := heap_at _ _ _ (by simp)
  have P : Hid ((w.alloc (.cells (vrow 2 (spAt x y)) 57)).heap[b]? = some (.cells (vrow 266 s.at) 40)) := heap_past _ _ _ _ (by first | (have := row_lt hs; omega) | (have := row_lt hs; simp <;> omega)) (hs)
  go_enter Try.func29, Try.ntmps29
  go_wp2
  (refine region_at (by kernel_rfl) (by kernel_rfl) ?_; intro W hW; rw [hW] at hB P R; clear hW; have P' := Go.Lib.hid (cls_row' P.out); have R' := Go.Lib.hid (cls_row' R.out); (repeat (first | go_big_quiet_skip | (refine wpQuiet_load1 5 _ rfl (by first | exact want_n rfl | exact want_g _ _ _ rfl rfl rfl) b _ rfl 266 s.at _ rw_u8 P'.out (by omega) ?_; (first | rw [Sh.at_0] | rw [Sh.at_1] | rw [Sh.at_wax1 _ _ (by omega)] | rw [Sh.at_wet1 _ _ (8 * y + x) (by omega) (by omega)] | rw [Sh.at_dye1 _ _ (24 * y + 3 * x) (by omega) (by omega)]); simp only [Act.put, List.setIfInBounds_toArray, List.set_cons_succ, List.set_cons_zero]) | (refine wpQuiet_load1 31 _ rfl (by first | exact want_n rfl | exact want_g _ _ _ rfl rfl rfl) (w.heap.size) _ rfl 2 (spAt x y) _ rw_i8 R'.out (by omega) ?_; (first | rw [spAt_0] | rw [spAt_1]); simp only [Act.put, List.setIfInBounds_toArray, List.set_cons_succ, List.set_cons_zero]) | go_big_quiet_step (fail))); refine wpQuiet_nil ?_; intro Wn hb; replace P := Go.Lib.hid (row_next hb P.out); replace R := Go.Lib.hid (row_next hb R.out); replace hB := Go.Lib.hid (below_next hB.out hb); clear hb P' R')
  go_wp2
  go_ret
  exact ⟨rfl, hB.out⟩
end Go.Proofs.Ytfhfiaphdgfmnaa
