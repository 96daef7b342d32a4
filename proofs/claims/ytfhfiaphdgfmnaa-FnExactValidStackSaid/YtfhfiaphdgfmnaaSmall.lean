import Derived.Test.YtfhfiaphdgfmnaaQ
namespace Go.Proofs.Ytfhfiaphdgfmnaa
open Go.RowKit
set_option maxRecDepth 100000
/-- the cell x, y is there -/
def hasB (s : Sh) (x y : Int) : Bool := decide (0 ≤ x) && (decide (x < s.wide) && (decide (0 ≤ y) && decide (y < s.high)))
def waxB (s : Sh) (x y : Nat) : Bool := bits BinOp.and IntKind.u8 (s.wax y / 2 ^ x) 1 == 1
def bareB (s : Sh) (x y : Nat) : Bool := (s.wet (8 * y + x) == 0) && ((s.dye (24 * y + 3 * x) == 0) && ((s.dye (24 * y + 3 * x + 1) == 0) && (s.dye (24 * y + 3 * x + 2) == 0)))
/-- a place is one of so many columns and rows -/
def insB (a c x y : Int) : Bool := decide (0 ≤ x) && (decide (x < a) && (decide (0 ≤ y) && decide (y < c)))
set_option maxHeartbeats 400000 in
theorem inside_any (a c x y : Int) (w : World) : Calls Try.prog 50 #[.int .i8 a, .int .i8 c, .agg #[.int .i8 x, .int .i8 y]] w fun e w' => e = .returned (.bool (insB a c x y)) ∧ Below w.heap.size w w' := by
  rw [sp_vrow]
  have hB : Hid (Below w.heap.size w (w.alloc (.cells (vrow 2 (spAt x y)) 57))) := ((Below.refl w.heap.size w).alloc (by simp <;> omega) _)
  have R : Hid ((w.alloc (.cells (vrow 2 (spAt x y)) 57)).heap[(w.heap.size)]? = some (.cells (vrow 2 (spAt x y)) 57)) := heap_at _ _ _ (by simp)
  by_cases h1 : 0 ≤ x
  · by_cases h2 : x < a
    · by_cases h3 : 0 ≤ y
      · by_cases h4 : y < c
        all_goals
          go_enter Try.func50, Try.ntmps50
          go_wp2_with (refine wpList_ld1 31 _ rfl (by first | exact want_n rfl | exact want_g _ _ _ rfl rfl rfl) (w.heap.size) _ rfl 2 (spAt x y) _ rw_i8 R.out (by omega) ?_; (first | rw [spAt_0] | rw [spAt_1]))
          go_ret
          exact ⟨by simp [insB] <;> (first | omega | (intros; omega)), hB.out⟩
      · go_enter Try.func50, Try.ntmps50
        go_wp2_with (refine wpList_ld1 31 _ rfl (by first | exact want_n rfl | exact want_g _ _ _ rfl rfl rfl) (w.heap.size) _ rfl 2 (spAt x y) _ rw_i8 R.out (by omega) ?_; (first | rw [spAt_0] | rw [spAt_1]))
        go_ret
        exact ⟨by simp [insB] <;> (first | omega | (intros; omega)), hB.out⟩
    · go_enter Try.func50, Try.ntmps50
      go_wp2_with (refine wpList_ld1 31 _ rfl (by first | exact want_n rfl | exact want_g _ _ _ rfl rfl rfl) (w.heap.size) _ rfl 2 (spAt x y) _ rw_i8 R.out (by omega) ?_; (first | rw [spAt_0] | rw [spAt_1]))
      go_ret
      exact ⟨by simp [insB] <;> (first | omega | (intros; omega)), hB.out⟩
  · go_enter Try.func50, Try.ntmps50
    go_wp2_with (refine wpList_ld1 31 _ rfl (by first | exact want_n rfl | exact want_g _ _ _ rfl rfl rfl) (w.heap.size) _ rfl 2 (spAt x y) _ rw_i8 R.out (by omega) ?_; (first | rw [spAt_0] | rw [spAt_1]))
    go_ret
    exact ⟨by simp [insB] <;> (first | omega | (intros; omega)), hB.out⟩
set_option maxHeartbeats 400000 in
theorem has_any (s : Sh) (x y : Int) (w : World) : Calls Try.prog 47 #[.agg s.row, .agg #[.int .i8 x, .int .i8 y]] w fun e w' => e = .returned (.bool (hasB s x y)) ∧ Below w.heap.size w w' := by
  rw [sp_vrow]
  have hB : Hid (Below w.heap.size w ((w.alloc (.cells (vrow 266 s.at) 40)).alloc (.cells (vrow 2 (spAt x y)) 57))) := (((Below.refl w.heap.size w).alloc (by simp <;> omega) _).alloc (by simp <;> omega) _)
  have P : Hid (((w.alloc (.cells (vrow 266 s.at) 40)).alloc (.cells (vrow 2 (spAt x y)) 57)).heap[(w.heap.size)]? = some (.cells (vrow 266 s.at) 40)) := heap_past _ _ _ _ (by first | omega | (simp <;> omega)) (heap_at _ _ _ (by simp))
  have R : Hid (((w.alloc (.cells (vrow 266 s.at) 40)).alloc (.cells (vrow 2 (spAt x y)) 57)).heap[(w.heap.size + 1)]? = some (.cells (vrow 2 (spAt x y)) 57)) := heap_at _ _ _ (by simp)
  have HC := Go.Lib.hid (fun w => inside_any s.wide s.high x y w)
  go_enter Try.func47, Try.ntmps47
  go_wp2_with (first
    | (refine wpList_ld1 31 _ rfl (by first | exact want_n rfl | exact want_g _ _ _ rfl rfl rfl) (w.heap.size) _ rfl 266 s.at _ rw_i8 P.out (by omega) ?_; (first | rw [Sh.at_0] | rw [Sh.at_1]))
    | (refine wpList_ldm 57 _ rfl (by first | exact want_n rfl | exact want_g _ _ _ rfl rfl rfl) (w.heap.size + 1) _ rfl 2 2 (spAt x y) _ rw_spot size_spot R.out (by omega) ?_; rw [sp_row])
    | (go_at_call 50; (refine (HC.out _).mono ?_; rintro e w1 ⟨rfl, hb⟩; replace hB := Go.Lib.hid (below_next hB.out hb); clear hb)))
  go_ret
  exact ⟨rfl, hB.out⟩
set_option maxHeartbeats 400000 in
theorem waxed_any (s : Sh) (x y : Nat) (hx : x < 8) (hy : y < 8) (w : World) : Calls Try.prog 49 #[.agg s.row, .agg #[.int .i8 x, .int .i8 y]] w fun e w' => e = .returned (.bool (waxB s x y)) ∧ Below w.heap.size w w' := by
  rw [sp_vrow]
  have hB : Hid (Below w.heap.size w ((w.alloc (.cells (vrow 266 s.at) 40)).alloc (.cells (vrow 2 (spAt x y)) 57))) := (((Below.refl w.heap.size w).alloc (by simp <;> omega) _).alloc (by simp <;> omega) _)
  have P : Hid (((w.alloc (.cells (vrow 266 s.at) 40)).alloc (.cells (vrow 2 (spAt x y)) 57)).heap[(w.heap.size)]? = some (.cells (vrow 266 s.at) 40)) := heap_past _ _ _ _ (by first | omega | (simp <;> omega)) (heap_at _ _ _ (by simp))
  have R : Hid (((w.alloc (.cells (vrow 266 s.at) 40)).alloc (.cells (vrow 2 (spAt x y)) 57)).heap[(w.heap.size + 1)]? = some (.cells (vrow 2 (spAt x y)) 57)) := heap_at _ _ _ (by simp)
  go_enter Try.func49, Try.ntmps49
  go_wp2
  obtain ⟨W, hW⟩ : ∃ W, ((w.alloc (.cells (vrow 266 s.at) 40)).alloc (.cells (vrow 2 (spAt x y)) 57)) = W := ⟨_, rfl⟩
  have hS : w.heap.size + 2 ≤ W.heap.size := by rw [← hW]; simp <;> omega
  rw [hW] at hB P R ⊢
  clear hW
  have P' := Go.Lib.hid (cls_row (n := W.heap.size) (by omega) P.out); have R' := Go.Lib.hid (cls_row (n := W.heap.size) (by omega) R.out)
  refine region_cls W.heap.size (by kernel_rfl) (by kernel_rfl) ?_
  repeat (first
    | go_big_quiet_skip
    | (refine wpQuiet_load1 31 _ rfl (by first | exact want_n rfl | exact want_g _ _ _ rfl rfl rfl) (w.heap.size) _ rfl 266 s.at _ rw_i8 P'.out (by omega) ?_; (first | rw [Sh.at_0] | rw [Sh.at_1] | rw [Sh.at_wax1 _ _ (by omega)] | rw [Sh.at_wet1 _ _ (8 * y + x) (by omega) (by omega)] | rw [Sh.at_dye1 _ _ (24 * y + 3 * x) (by omega) (by omega)]); simp only [Act.put, List.setIfInBounds_toArray, List.set_cons_succ, List.set_cons_zero])
    | (refine wpQuiet_load1 5 _ rfl (by first | exact want_n rfl | exact want_g _ _ _ rfl rfl rfl) (w.heap.size) _ rfl 266 s.at _ rw_u8 P'.out (by omega) ?_; (first | rw [Sh.at_0] | rw [Sh.at_1] | rw [Sh.at_wax1 _ _ (by omega)] | rw [Sh.at_wet1 _ _ (8 * y + x) (by omega) (by omega)] | rw [Sh.at_dye1 _ _ (24 * y + 3 * x) (by omega) (by omega)]); simp only [Act.put, List.setIfInBounds_toArray, List.set_cons_succ, List.set_cons_zero])
    | (refine wpQuiet_load1 31 _ rfl (by first | exact want_n rfl | exact want_g _ _ _ rfl rfl rfl) (w.heap.size + 1) _ rfl 2 (spAt x y) _ rw_i8 R'.out (by omega) ?_; (first | rw [spAt_0] | rw [spAt_1]); simp only [Act.put, List.setIfInBounds_toArray, List.set_cons_succ, List.set_cons_zero])
    | (refine wpQuiet_load1 5 _ rfl (by first | exact want_n rfl | exact want_g _ _ _ rfl rfl rfl) (w.heap.size + 1) _ rfl 2 (spAt x y) _ rw_u8 R'.out (by omega) ?_; (first | rw [spAt_0] | rw [spAt_1]); simp only [Act.put, List.setIfInBounds_toArray, List.set_cons_succ, List.set_cons_zero])
    | go_big_quiet_step (fail))
  refine wpQuiet_nil ?_; intro W2 hb; have hS2 : W.heap.size ≤ W2.heap.size := hb.size; have hB2 := Go.Lib.hid (hB.out.trans (hb.mono (by omega)))
  have P2 := Go.Lib.hid (row_below hb (by omega) P.out); have R2 := Go.Lib.hid (row_below hb (by omega) R.out)
  clear hb P P' R R'
  go_wp2
  go_ret
  exact ⟨rfl, hB2.out⟩
set_option maxHeartbeats 400000 in
theorem bare_any (s : Sh) (x y : Nat) (hx : x < 8) (hy : y < 8) (w : World) : Calls Try.prog 48 #[.agg s.row, .agg #[.int .i8 x, .int .i8 y]] w fun e w' => e = .returned (.bool (bareB s x y)) ∧ Below w.heap.size w w' := by
  rw [sp_vrow]
  have heq := eq_d3
  by_cases hw : s.wet (8 * y + x) = 0
  · have hB : Hid (Below w.heap.size w ((w.alloc (.cells (vrow 266 s.at) 40)).alloc (.cells (vrow 2 (spAt x y)) 57))) := (((Below.refl w.heap.size w).alloc (by simp <;> omega) _).alloc (by simp <;> omega) _)
    have P : Hid (((w.alloc (.cells (vrow 266 s.at) 40)).alloc (.cells (vrow 2 (spAt x y)) 57)).heap[(w.heap.size)]? = some (.cells (vrow 266 s.at) 40)) := heap_past _ _ _ _ (by first | omega | (simp <;> omega)) (heap_at _ _ _ (by simp))
    have R : Hid (((w.alloc (.cells (vrow 266 s.at) 40)).alloc (.cells (vrow 2 (spAt x y)) 57)).heap[(w.heap.size + 1)]? = some (.cells (vrow 2 (spAt x y)) 57)) := heap_at _ _ _ (by simp)
    go_enter Try.func48, Try.ntmps48
    go_wp2
    obtain ⟨W, hW⟩ : ∃ W, ((w.alloc (.cells (vrow 266 s.at) 40)).alloc (.cells (vrow 2 (spAt x y)) 57)) = W := ⟨_, rfl⟩
    have hS : w.heap.size + 2 ≤ W.heap.size := by rw [← hW]; simp <;> omega
    rw [hW] at hB P R ⊢
    clear hW
    have P' := Go.Lib.hid (cls_row (n := W.heap.size) (by omega) P.out); have R' := Go.Lib.hid (cls_row (n := W.heap.size) (by omega) R.out)
    refine region_cls W.heap.size (by kernel_rfl) (by kernel_rfl) ?_
    repeat (first
      | go_big_quiet_skip
      | (refine wpQuiet_load1 31 _ rfl (by first | exact want_n rfl | exact want_g _ _ _ rfl rfl rfl) (w.heap.size) _ rfl 266 s.at _ rw_i8 P'.out (by omega) ?_; (first | rw [Sh.at_0] | rw [Sh.at_1] | rw [Sh.at_wax1 _ _ (by omega)] | rw [Sh.at_wet1 _ _ (8 * y + x) (by omega) (by omega)] | rw [Sh.at_dye1 _ _ (24 * y + 3 * x) (by omega) (by omega)]); simp only [Act.put, List.setIfInBounds_toArray, List.set_cons_succ, List.set_cons_zero])
      | (refine wpQuiet_load1 32 _ rfl (by first | exact want_n rfl | exact want_g _ _ _ rfl rfl rfl) (w.heap.size) _ rfl 266 s.at _ rw_i16 P'.out (by omega) ?_; (first | rw [Sh.at_0] | rw [Sh.at_1] | rw [Sh.at_wax1 _ _ (by omega)] | rw [Sh.at_wet1 _ _ (8 * y + x) (by omega) (by omega)] | rw [Sh.at_dye1 _ _ (24 * y + 3 * x) (by omega) (by omega)]); simp only [Act.put, List.setIfInBounds_toArray, List.set_cons_succ, List.set_cons_zero])
      | (refine wpQuiet_loadmid 35 _ rfl (by first | exact want_n rfl | exact want_g _ _ _ rfl rfl rfl) (w.heap.size) _ rfl 266 3 s.at _ rw_d3 size_d3 P'.out (by omega) ?_; rw [Sh.at_d3 _ _ (24 * y + 3 * x) (by omega) (by omega)]; simp only [Act.put, List.setIfInBounds_toArray, List.set_cons_succ, List.set_cons_zero])
      | (refine wpQuiet_load1 31 _ rfl (by first | exact want_n rfl | exact want_g _ _ _ rfl rfl rfl) (w.heap.size + 1) _ rfl 2 (spAt x y) _ rw_i8 R'.out (by omega) ?_; (first | rw [spAt_0] | rw [spAt_1]); simp only [Act.put, List.setIfInBounds_toArray, List.set_cons_succ, List.set_cons_zero])
      | (refine wpQuiet_load1 32 _ rfl (by first | exact want_n rfl | exact want_g _ _ _ rfl rfl rfl) (w.heap.size + 1) _ rfl 2 (spAt x y) _ rw_i16 R'.out (by omega) ?_; (first | rw [spAt_0] | rw [spAt_1]); simp only [Act.put, List.setIfInBounds_toArray, List.set_cons_succ, List.set_cons_zero])
      | (refine wpQuiet_loadmid 35 _ rfl (by first | exact want_n rfl | exact want_g _ _ _ rfl rfl rfl) (w.heap.size + 1) _ rfl 2 3 (spAt x y) _ rw_d3 size_d3 R'.out (by omega) ?_; rw [sp_row]; simp only [Act.put, List.setIfInBounds_toArray, List.set_cons_succ, List.set_cons_zero])
      | go_big_quiet_step (fail))
    refine wpQuiet_nil ?_; intro W2 hb; have hS2 : W.heap.size ≤ W2.heap.size := hb.size; have hB2 := Go.Lib.hid (hB.out.trans (hb.mono (by omega)))
    have P2 := Go.Lib.hid (row_below hb (by omega) P.out); have R2 := Go.Lib.hid (row_below hb (by omega) R.out)
    clear hb P P' R R'
    go_wp2
    go_ret
    exact ⟨by simp [bareB, hw], hB2.out⟩
  · have hd : (s.wet (8 * y + x) == 0) = false := by simpa using hw
    clear hw
    have hB : Hid (Below w.heap.size w ((w.alloc (.cells (vrow 266 s.at) 40)).alloc (.cells (vrow 2 (spAt x y)) 57))) := (((Below.refl w.heap.size w).alloc (by simp <;> omega) _).alloc (by simp <;> omega) _)
    have P : Hid (((w.alloc (.cells (vrow 266 s.at) 40)).alloc (.cells (vrow 2 (spAt x y)) 57)).heap[(w.heap.size)]? = some (.cells (vrow 266 s.at) 40)) := heap_past _ _ _ _ (by first | omega | (simp <;> omega)) (heap_at _ _ _ (by simp))
    have R : Hid (((w.alloc (.cells (vrow 266 s.at) 40)).alloc (.cells (vrow 2 (spAt x y)) 57)).heap[(w.heap.size + 1)]? = some (.cells (vrow 2 (spAt x y)) 57)) := heap_at _ _ _ (by simp)
    go_enter Try.func48, Try.ntmps48
    go_wp2
    obtain ⟨W, hW⟩ : ∃ W, ((w.alloc (.cells (vrow 266 s.at) 40)).alloc (.cells (vrow 2 (spAt x y)) 57)) = W := ⟨_, rfl⟩
    have hS : w.heap.size + 2 ≤ W.heap.size := by rw [← hW]; simp <;> omega
    rw [hW] at hB P R ⊢
    clear hW
    have P' := Go.Lib.hid (cls_row (n := W.heap.size) (by omega) P.out); have R' := Go.Lib.hid (cls_row (n := W.heap.size) (by omega) R.out)
    refine region_cls W.heap.size (by kernel_rfl) (by kernel_rfl) ?_
    repeat (first
      | go_big_quiet_skip
      | (refine wpQuiet_load1 31 _ rfl (by first | exact want_n rfl | exact want_g _ _ _ rfl rfl rfl) (w.heap.size) _ rfl 266 s.at _ rw_i8 P'.out (by omega) ?_; (first | rw [Sh.at_0] | rw [Sh.at_1] | rw [Sh.at_wax1 _ _ (by omega)] | rw [Sh.at_wet1 _ _ (8 * y + x) (by omega) (by omega)] | rw [Sh.at_dye1 _ _ (24 * y + 3 * x) (by omega) (by omega)]); simp only [Act.put, List.setIfInBounds_toArray, List.set_cons_succ, List.set_cons_zero])
      | (refine wpQuiet_load1 32 _ rfl (by first | exact want_n rfl | exact want_g _ _ _ rfl rfl rfl) (w.heap.size) _ rfl 266 s.at _ rw_i16 P'.out (by omega) ?_; (first | rw [Sh.at_0] | rw [Sh.at_1] | rw [Sh.at_wax1 _ _ (by omega)] | rw [Sh.at_wet1 _ _ (8 * y + x) (by omega) (by omega)] | rw [Sh.at_dye1 _ _ (24 * y + 3 * x) (by omega) (by omega)]); simp only [Act.put, List.setIfInBounds_toArray, List.set_cons_succ, List.set_cons_zero])
      | (refine wpQuiet_loadmid 35 _ rfl (by first | exact want_n rfl | exact want_g _ _ _ rfl rfl rfl) (w.heap.size) _ rfl 266 3 s.at _ rw_d3 size_d3 P'.out (by omega) ?_; rw [Sh.at_d3 _ _ (24 * y + 3 * x) (by omega) (by omega)]; simp only [Act.put, List.setIfInBounds_toArray, List.set_cons_succ, List.set_cons_zero])
      | (refine wpQuiet_load1 31 _ rfl (by first | exact want_n rfl | exact want_g _ _ _ rfl rfl rfl) (w.heap.size + 1) _ rfl 2 (spAt x y) _ rw_i8 R'.out (by omega) ?_; (first | rw [spAt_0] | rw [spAt_1]); simp only [Act.put, List.setIfInBounds_toArray, List.set_cons_succ, List.set_cons_zero])
      | (refine wpQuiet_load1 32 _ rfl (by first | exact want_n rfl | exact want_g _ _ _ rfl rfl rfl) (w.heap.size + 1) _ rfl 2 (spAt x y) _ rw_i16 R'.out (by omega) ?_; (first | rw [spAt_0] | rw [spAt_1]); simp only [Act.put, List.setIfInBounds_toArray, List.set_cons_succ, List.set_cons_zero])
      | (refine wpQuiet_loadmid 35 _ rfl (by first | exact want_n rfl | exact want_g _ _ _ rfl rfl rfl) (w.heap.size + 1) _ rfl 2 3 (spAt x y) _ rw_d3 size_d3 R'.out (by omega) ?_; rw [sp_row]; simp only [Act.put, List.setIfInBounds_toArray, List.set_cons_succ, List.set_cons_zero])
      | go_big_quiet_step (fail))
    refine wpQuiet_nil ?_; intro W2 hb; have hS2 : W.heap.size ≤ W2.heap.size := hb.size; have hB2 := Go.Lib.hid (hB.out.trans (hb.mono (by omega)))
    have P2 := Go.Lib.hid (row_below hb (by omega) P.out); have R2 := Go.Lib.hid (row_below hb (by omega) R.out)
    clear hb P P' R R'
    go_wp2
    go_ret
    exact ⟨by simp [bareB, hd], hB2.out⟩
end Go.Proofs.Ytfhfiaphdgfmnaa
