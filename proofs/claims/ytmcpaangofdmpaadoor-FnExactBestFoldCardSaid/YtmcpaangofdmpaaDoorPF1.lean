import Derived.Test.YtmcpaangofdmpaaDoorGap2
import Derived.Test.YtmcpaangofdmpaaDoorQT
import Derived.Test.YtmcpaangofdmpaaDoorPathK
import Derived.Test.YtmcpaangofdmpaaDoorEvM
import Derived.Test.YtmcpaangofdmpaaDoorPairI
import Derived.Test.YtmcpaangofdmpaaDoorPOff
namespace Go.Proofs.YtmcpaangofdmpaaDoor
open Go.RowKit
set_option linter.unusedVariables false
set_option linter.unusedSimpArgs false
/-- how much goes from the first to the second of two amounts (less than 0: back) -/
def goes (x y pr : Int) : Int := if x - y < 0 then -(((if y ≤ x then x - y else y - x) * pr).tdiv 16) else ((if y ≤ x then x - y else y - x) * pr).tdiv 16
set_option maxHeartbeats 1000000 in
theorem lgoes_any (x y pr : Int) (w : World) (hx : 0 ≤ x ∧ x ≤ 2000) (hy : 0 ≤ y ∧ y ≤ 2000) (hp : 0 ≤ pr ∧ pr ≤ 16) : Calls Tryd.prog 94 #[.int .i16 x, .int .i16 y, .int .i8 pr] w fun e w' => e = .returned (.int .i16 (goes x y pr)) ∧ Below w.heap.size w w' := by
  have hB := Go.Lib.hid (Below.refl w.heap.size w)
  have HZ := Go.Lib.hid fun w => lsize_any x y (by omega) (by omega) w
  have hm : 0 ≤ (if y ≤ x then x - y else y - x) * pr ∧ (if y ≤ x then x - y else y - x) * pr ≤ 32000 := by
    generalize hu : (if y ≤ x then x - y else y - x) = u
    have h1 : 0 ≤ u ∧ u ≤ 2000 := by rw [← hu]; split <;> omega
    exact ⟨Int.mul_nonneg h1.1 hp.1, Int.le_trans (Int.mul_le_mul_of_nonneg_right h1.2 hp.1) (by omega)⟩
  have hg : goes x y pr = if x - y < 0 then -(((if y ≤ x then x - y else y - x) * pr).tdiv 16) else ((if y ≤ x then x - y else y - x) * pr).tdiv 16 := rfl
  have hu0 : 0 ≤ (if y ≤ x then x - y else y - x) ∧ (if y ≤ x then x - y else y - x) ≤ 2000 := by split <;> omega
  generalize (if y ≤ x then x - y else y - x) = u at *
  obtain ⟨t, ht⟩ : ∃ t, u * pr = t := ⟨_, rfl⟩
  rw [ht] at hm hg
  have HT := Go.Lib.hid ht
  have hd : 0 ≤ t.tdiv 16 ∧ t.tdiv 16 ≤ 2000 := by rw [Int.tdiv_eq_ediv_of_nonneg hm.1]; omega
  have HG := Go.Lib.hid hg
  have hwt : IntKind.i64.wrap (u * pr) = t := by rw [ht]; exact IntWalk.i64_in _ (by omega)
  have hw1 : IntKind.i16.wrap (t.tdiv 16) = t.tdiv 16 := IntWalk.i16_in _ (by omega)
  have hw2 : IntKind.i16.wrap (-(t.tdiv 16)) = -(t.tdiv 16) := IntWalk.i16_in _ (by omega)
  have hw3 : IntKind.i64.wrap (t.tdiv 16) = t.tdiv 16 := IntWalk.i64_in _ (by omega)
  have hw4 : IntKind.i64.wrap (-(t.tdiv 16)) = -(t.tdiv 16) := IntWalk.i64_in _ (by omega)
  clear hg ht
  by_cases hlt : x - y < 0
  · have hl : decide (x - y < 0) = true := by simpa using hlt
    go_enter Tryd.func94, Tryd.ntmps94
    go_wp2_with (first
      | go_skip
      | (go_at_call 95; (refine (HZ.out _).mono ?_); rintro o w1 ⟨rfl, hb⟩; replace hB := Go.Lib.hid (below_next hB.out hb); clear hb))
    go_ret
    exact ⟨by rw [HG.out, if_pos hlt]; rfl, hB.out⟩
  · have hl : decide (x - y < 0) = false := by simpa using hlt
    go_enter Tryd.func94, Tryd.ntmps94
    go_wp2_with (first
      | go_skip
      | (go_at_call 95; (refine (HZ.out _).mono ?_); rintro o w1 ⟨rfl, hb⟩; replace hB := Go.Lib.hid (below_next hB.out hb); clear hb))
    go_ret
    exact ⟨by rw [HG.out, if_neg (by omega)]; rfl, hB.out⟩
theorem rw_intP : (Tryd.prog.underlying 3).map (·.isRow) = some false := by kernel_rfl
theorem rw_ps : (Tryd.prog.underlying 73).map (·.isRow) = some false := by kernel_rfl
set_option maxHeartbeats 1000000 in
theorem wetP_any (sb b x y : Nat) (w : World) (h1 : w.heap[b]? = some (.cells (vrow 1 fun _ => .pointer (some ⟨sb, 0, none⟩)) 73)) (hx : x < 8) (hy : y < 8) : Calls Tryd.prog 146 #[.agg (vrow 2 (spAt x y)), .pointer (some ⟨b, 0, none⟩)] w fun e w' => e = .returned (.pointer (some ⟨sb, 2 + y * 8 + x, none⟩)) ∧ Below w.heap.size w w' := by
  have P : Hid ((w.alloc (.cells (vrow 2 (spAt x y)) 111)).heap[b]? = some (.cells (vrow 1 fun _ => .pointer (some ⟨sb, 0, none⟩)) 73)) := heap_past _ _ _ _ (row_lt h1) h1
  have R : Hid ((w.alloc (.cells (vrow 2 (spAt x y)) 111)).heap[w.heap.size]? = some (.cells (vrow 2 (spAt x y)) 111)) := (heap_at _ _ _ (by simp))
  have hB : Hid (Below w.heap.size w (w.alloc (.cells (vrow 2 (spAt x y)) 111))) := Go.Lib.hid ((Below.refl w.heap.size w).alloc (by simp <;> omega) _)
  clear h1
  have hxI : (x : Int) < 8 := by omega
  have hyI : (y : Int) < 8 := by omega
  go_enter Tryd.func146, Tryd.ntmps146
  go_wp2
  refine region_at (by kernel_rfl) (by kernel_rfl) ?_
  intro W hW
  rw [hW] at hB P R
  clear hW
  have P' := Go.Lib.hid (cls_row' P.out); have R' := Go.Lib.hid (cls_row' R.out)
  (repeat (first
    | go_big_quiet_skip
    | (refine wpQuiet_load1 73 _ rfl (by first | exact want_n rfl | exact want_g _ _ _ rfl rfl rfl) b _ rfl 1 (fun _ => .pointer (some ⟨sb, 0, none⟩)) _ rw_ps P'.out (by omega) ?_; simp only [Act.put, List.setIfInBounds_toArray, List.set_cons_succ, List.set_cons_zero])
    | (refine wpQuiet_load1 22 _ rfl (by first | exact want_n rfl | exact want_g _ _ _ rfl rfl rfl) w.heap.size _ rfl 2 (spAt x y) _ rw_i8 R'.out (by omega) ?_; (first | rw [spAt_0] | rw [spAt_1]); simp only [Act.put, List.setIfInBounds_toArray, List.set_cons_succ, List.set_cons_zero])
    | go_big_quiet_step (fail)))
  refine wpQuiet_nil ?_
  intro W2 hb
  replace hB := Go.Lib.hid (below_next hB.out hb)
  clear hb P' R'
  go_wp2
  go_ret
  exact ⟨rfl, hB.out⟩
set_option maxHeartbeats 1000000 in
theorem dyeP_any (sb b x y bm m : Nat) (w : World) (h1 : w.heap[b]? = some (.cells (vrow 1 fun _ => .pointer (some ⟨sb, 0, none⟩)) 73)) (h2 : w.heap[bm]? = some (.cells (vrow 1 fun _ => .int .i64 m) 3)) (hm : m < 3) (hx : x < 8) (hy : y < 8) : Calls Tryd.prog 147 #[.agg (vrow 2 (spAt x y)), .pointer (some ⟨b, 0, none⟩), .pointer (some ⟨bm, 0, none⟩)] w fun e w' => e = .returned (.pointer (some ⟨sb, 66 + y * 24 + x * 3 + m, none⟩)) ∧ Below w.heap.size w w' := by
  have P : Hid ((w.alloc (.cells (vrow 2 (spAt x y)) 111)).heap[b]? = some (.cells (vrow 1 fun _ => .pointer (some ⟨sb, 0, none⟩)) 73)) := heap_past _ _ _ _ (row_lt h1) h1
  have M : Hid ((w.alloc (.cells (vrow 2 (spAt x y)) 111)).heap[bm]? = some (.cells (vrow 1 fun _ => .int .i64 m) 3)) := heap_past _ _ _ _ (row_lt h2) h2
  clear h2
  have R : Hid ((w.alloc (.cells (vrow 2 (spAt x y)) 111)).heap[w.heap.size]? = some (.cells (vrow 2 (spAt x y)) 111)) := (heap_at _ _ _ (by simp))
  have hB : Hid (Below w.heap.size w (w.alloc (.cells (vrow 2 (spAt x y)) 111))) := Go.Lib.hid ((Below.refl w.heap.size w).alloc (by simp <;> omega) _)
  clear h1
  have hxI : (x : Int) < 8 := by omega
  have hyI : (y : Int) < 8 := by omega
  have hmI : (m : Int) < 3 := by omega
  go_enter Tryd.func147, Tryd.ntmps147
  go_wp2
  refine region_at (by kernel_rfl) (by kernel_rfl) ?_
  intro W hW
  rw [hW] at hB P R M
  clear hW
  have P' := Go.Lib.hid (cls_row' P.out); have R' := Go.Lib.hid (cls_row' R.out); have M' := Go.Lib.hid (cls_row' M.out)
  (repeat (first
    | go_big_quiet_skip
    | (refine wpQuiet_load1 73 _ rfl (by first | exact want_n rfl | exact want_g _ _ _ rfl rfl rfl) b _ rfl 1 (fun _ => .pointer (some ⟨sb, 0, none⟩)) _ rw_ps P'.out (by omega) ?_; simp only [Act.put, List.setIfInBounds_toArray, List.set_cons_succ, List.set_cons_zero])
    | (refine wpQuiet_load1 22 _ rfl (by first | exact want_n rfl | exact want_g _ _ _ rfl rfl rfl) w.heap.size _ rfl 2 (spAt x y) _ rw_i8 R'.out (by omega) ?_; (first | rw [spAt_0] | rw [spAt_1]); simp only [Act.put, List.setIfInBounds_toArray, List.set_cons_succ, List.set_cons_zero])
    | (refine wpQuiet_load1 3 _ rfl (by first | exact want_n rfl | exact want_g _ _ _ rfl rfl rfl) bm _ rfl 1 (fun _ => .int .i64 m) _ rw_intP M'.out (by omega) ?_; simp only [Act.put, List.setIfInBounds_toArray, List.set_cons_succ, List.set_cons_zero])
    | go_big_quiet_step (fail)))
  refine wpQuiet_nil ?_
  intro W2 hb
  replace hB := Go.Lib.hid (below_next hB.out hb)
  clear hb P' R'
  go_wp2
  go_ret
  exact ⟨rfl, hB.out⟩
set_option maxHeartbeats 1000000 in
theorem mv_any (sb o1 o2 N : Nat) (ty : TypeId) (f : Nat → Value) (u v n : Int) (w : World) (h : w.heap[sb]? = some (.cells (vrow N f) ty)) (h1 : f o1 = .int .i16 u) (h2 : f o2 = .int .i16 v) (hne : o1 ≠ o2) (l1 : o1 < N) (l2 : o2 < N) (hu : 0 ≤ u ∧ u ≤ 10000) (hv : 0 ≤ v ∧ v ≤ 10000) (hn : 0 ≤ n ∧ n ≤ 10000) : Calls Tryd.prog 124 #[.pointer (some ⟨sb, o1, none⟩), .pointer (some ⟨sb, o2, none⟩), .int .i16 n] w fun e w' => e = .returned (.int .i64 n) ∧ w' = w.setRow sb (vrow N (over (over f o1 1 fun _ => .int .i16 (u - n)) o2 1 fun _ => .int .i16 (v + n))) := by
  have P := Go.Lib.hid h
  have H1 := Go.Lib.hid h1
  have H2 : Hid ((over f o1 1 fun _ => .int .i16 (u - n)) o2 = .int .i16 v) := Go.Lib.hid (by unfold over; rw [if_neg (by omega)]; exact h2)
  have hw1 : IntKind.i16.wrap (u - n) = u - n := IntWalk.i16_in _ (by omega)
  have hw2 : IntKind.i16.wrap (v + n) = v + n := IntWalk.i16_in _ (by omega)
  clear h1 h2
  go_enter Tryd.func124, Tryd.ntmps124
  go_wp2_with (first
    | go_skip
    | ((with_reducible refine wlAt 9 rfl ?_); refine wpList_ld1 23 _ rfl (by first | exact want_n rfl | exact want_g _ _ _ rfl rfl rfl) sb o1 rfl N f _ rw_i16 P.out (by omega) ?_; rw [H1.out])
    | ((with_reducible refine wlOp (.store 23 (.tmp 12) (.tmp 11)) rfl ?_); refine wpList_store1 rfl 23 (.tmp 12) (.tmp 11) rfl sb o1 rfl N f (.int .i16 (u - n)) rfl ty size_i16 P.out (by omega) rfl ?_; replace P := Go.Lib.hid (row_set P.out (vrow N (over f o1 1 fun _ => .int .i16 (u - n)))))
    | ((with_reducible refine wlAt 15 rfl ?_); refine wpList_ld1 23 _ rfl (by first | exact want_n rfl | exact want_g _ _ _ rfl rfl rfl) sb o2 rfl N (over f o1 1 fun _ => .int .i16 (u - n)) _ rw_i16 P.out (by omega) ?_; rw [H2.out])
    | ((with_reducible refine wlOp (.store 23 (.tmp 18) (.tmp 17)) rfl ?_); refine wpList_store1 rfl 23 (.tmp 18) (.tmp 17) rfl sb o2 rfl N (over f o1 1 fun _ => .int .i16 (u - n)) (.int .i16 (v + n)) rfl ty size_i16 P.out (by omega) rfl ?_; rw [setRow_twiceK]))
  go_ret
  exact ⟨rfl, rfl⟩
set_option maxHeartbeats 1000000 in
theorem sixt8_any (v p : Int) (hv : 0 ≤ v ∧ v ≤ 2000) (hp : 0 ≤ p ∧ p ≤ 16) (w : World) : Calls Tryd.prog 151 #[.int .i16 v, .int .i8 p] w fun e w' => e = .returned (.int .i16 ((v * p).tdiv 16)) ∧ Below w.heap.size w w' := by
  have hB := Go.Lib.hid (Below.refl w.heap.size w)
  have hm : 0 ≤ v * p ∧ v * p ≤ 32000 := ⟨Int.mul_nonneg hv.1 hp.1, Int.le_trans (Int.mul_le_mul_of_nonneg_right hv.2 hp.1) (by omega)⟩
  obtain ⟨t, ht⟩ : ∃ t, v * p = t := ⟨_, rfl⟩
  rw [ht] at hm ⊢
  have hwt : IntKind.i64.wrap (v * p) = t := by rw [ht]; exact IntWalk.i64_in _ (by omega)
  have hd : 0 ≤ t.tdiv 16 ∧ t.tdiv 16 ≤ 2000 := by rw [Int.tdiv_eq_ediv_of_nonneg hm.1]; omega
  have hw1 : IntKind.i16.wrap (t.tdiv 16) = t.tdiv 16 := IntWalk.i16_in _ (by omega)
  have hw3 : IntKind.i64.wrap (t.tdiv 16) = t.tdiv 16 := IntWalk.i64_in _ (by omega)
  clear ht
  go_enter Tryd.func151, Tryd.ntmps151
  go_wp2
  go_ret
  exact ⟨rfl, hB.out⟩
set_option maxHeartbeats 2000000 in
theorem level_any (sb o1 o2 N : Nat) (ty : TypeId) (f : Nat → Value) (u v pr : Int) (w : World) (h : w.heap[sb]? = some (.cells (vrow N f) ty)) (h1 : f o1 = .int .i16 u) (h2 : f o2 = .int .i16 v) (hne : o1 ≠ o2) (l1 : o1 < N) (l2 : o2 < N) (hu : 0 ≤ u ∧ u ≤ 2000) (hv : 0 ≤ v ∧ v ≤ 2000) (hle : v ≤ u) (hp : 0 ≤ pr ∧ pr ≤ 16) : Calls Tryd.prog 149 #[.pointer (some ⟨sb, o1, none⟩), .pointer (some ⟨sb, o2, none⟩), .int .i8 pr] w fun e w' => e = .returned (.int .i64 (((u - v) * pr).tdiv 16)) ∧ ∃ wb, Below w.heap.size w wb ∧ w' = wb.setRow sb (vrow N (over (over f o1 1 fun _ => .int .i16 (u - ((u - v) * pr).tdiv 16)) o2 1 fun _ => .int .i16 (v + ((u - v) * pr).tdiv 16))) := by
  have hm : 0 ≤ (u - v) * pr ∧ (u - v) * pr ≤ 32000 := ⟨Int.mul_nonneg (by omega) hp.1, Int.le_trans (Int.mul_le_mul_of_nonneg_right (show u - v ≤ 2000 by omega) hp.1) (by omega)⟩
  have hd : 0 ≤ ((u - v) * pr).tdiv 16 ∧ ((u - v) * pr).tdiv 16 ≤ 2000 := by rw [Int.tdiv_eq_ediv_of_nonneg hm.1]; omega
  have HS := Go.Lib.hid fun w => sixt8_any (u - v) pr (by omega) hp w
  generalize ((u - v) * pr).tdiv 16 = n at *
  have HM := Go.Lib.hid fun w h => mv_any sb o1 o2 N ty f u v n w h h1 h2 hne l1 l2 (by omega) (by omega) (by omega)
  have hw : IntKind.i16.wrap (u - v) = u - v := IntWalk.i16_in _ (by omega)
  have P := Go.Lib.hid h; have H1 := Go.Lib.hid h1; have H2 := Go.Lib.hid h2
  obtain ⟨w0, hw0⟩ : ∃ w0 : World, w0 = w := ⟨w, rfl⟩
  have hB := Go.Lib.hid (show Below w0.heap.size w0 w by rw [hw0]; exact Below.refl _ _)
  have HW0 := Go.Lib.hid hw0
  clear h h1 h2 hm hw0
  go_enter Tryd.func149, Tryd.ntmps149
  go_wp2
  refine region_qt 11 (by kernel_rfl) (by kernel_rfl) ?_
  intro W hW
  rw [hW] at hB P
  clear hW
  simp only [List.take_succ_cons, List.take_zero, List.drop_succ_cons, List.drop_zero]
  have P' := Go.Lib.hid (cls_row' P.out)
  (repeat (first
    | go_big_quiet_skip
    | (refine wpQuiet_load1 23 _ rfl (by first | exact want_n rfl | exact want_g _ _ _ rfl rfl rfl) sb o1 rfl N f _ rw_i16 P'.out (by omega) ?_; rw [H1.out]; simp only [Act.put, List.setIfInBounds_toArray, List.set_cons_succ, List.set_cons_zero])
    | (refine wpQuiet_load1 23 _ rfl (by first | exact want_n rfl | exact want_g _ _ _ rfl rfl rfl) sb o2 rfl N f _ rw_i16 P'.out (by omega) ?_; rw [H2.out]; simp only [Act.put, List.setIfInBounds_toArray, List.set_cons_succ, List.set_cons_zero])
    | go_big_quiet_step ((go_at_call 151; exact cls_call _ (fun w hw => HS.out w)))))
  refine wpQuiet_nil ?_
  intro W2 hb
  replace P := Go.Lib.hid (row_next hb P.out); replace hB := Go.Lib.hid (below_next hB.out hb)
  clear hb P'
  go_wp2_with (first
    | go_skip
    | (go_at_call 124; (refine (HM.out _ P.out).mono ?_); rintro o w3 ⟨rfl, rfl⟩))
  go_ret
  exact ⟨rfl, _, by rw [← HW0.out]; exact hB.out, rfl⟩
end Go.Proofs.YtmcpaangofdmpaaDoor
namespace Go.Proofs.YtmcpaangofdmpaaDoor
open Go.RowKit
set_option maxRecDepth 100000
set_option linter.unusedVariables false
set_option linter.unusedSimpArgs false
/-- a sheet with other water at a place -/
def Sh.ew (s : Sh) (j : Nat) (v : Int) : Sh := ⟨s.wide, s.high, fun i => if i = j then v else s.wet i, s.dye, s.wax⟩
theorem Sh.ew_over (s : Sh) (o j : Nat) (ho : o = 2 + j) (hj : j < 64) (v : Int) : over s.at o 1 (fun _ => .int .i16 v) = (s.ew j v).at := funext fun i => by
  subst ho
  unfold over Sh.at Sh.ew
  dsimp only
  by_cases h : i = 2 + j
  · subst h
    rw [if_pos (by omega), if_neg (by omega), if_neg (by omega), if_pos (by omega), if_pos (by omega)]
  · rw [if_neg (by omega)]
    by_cases h0 : i = 0
    · rw [if_pos h0, if_pos h0]
    · rw [if_neg h0, if_neg h0]
      by_cases h1 : i = 1
      · rw [if_pos h1, if_pos h1]
      · rw [if_neg h1, if_neg h1]
        by_cases h2 : i < 66
        · rw [if_pos h2, if_pos h2, if_neg (by omega)]
        · rw [if_neg h2, if_neg h2]
theorem Sh.ed_over (s : Sh) (o j : Nat) (ho : o = 66 + j) (hj : j < 192) (v : Int) : over s.at o 1 (fun _ => .int .i16 v) = (s.ed j v).at := funext fun i => by
  subst ho
  unfold over Sh.at Sh.ed
  dsimp only
  by_cases h : i = 66 + j
  · subst h
    rw [if_pos (by omega), if_neg (by omega), if_neg (by omega), if_neg (by omega), if_pos (by omega), if_pos (by omega)]
  · rw [if_neg (by omega)]
    by_cases h0 : i = 0
    · rw [if_pos h0, if_pos h0]
    · rw [if_neg h0, if_neg h0]
      by_cases h1 : i = 1
      · rw [if_pos h1, if_pos h1]
      · rw [if_neg h1, if_neg h1]
        by_cases h2 : i < 66
        · rw [if_pos h2, if_pos h2]
        · rw [if_neg h2, if_neg h2]
          by_cases h3 : i < 258
          · rw [if_pos h3, if_pos h3, if_neg (by omega)]
          · rw [if_neg h3, if_neg h3]
theorem Sh.ed_comm (s : Sh) {i j : Nat} (h : i ≠ j) (u v : Int) : (s.ed i u).ed j v = (s.ed j v).ed i u := by
  unfold Sh.ed; simp only [Sh.mk.injEq, true_and, and_true]; funext k; split <;> split <;> first | rfl | omega
theorem Sh.ew_comm (s : Sh) {i j : Nat} (h : i ≠ j) (u v : Int) : (s.ew i u).ew j v = (s.ew j v).ew i u := by
  unfold Sh.ew; simp only [Sh.mk.injEq, true_and, and_true]; funext k; split <;> split <;> first | rfl | omega
theorem Sh.ed_same (s : Sh) (j : Nat) : s.ed j (s.dye j) = s := by
  unfold Sh.ed; cases s; simp only [Sh.mk.injEq, true_and, and_true]; funext k; split <;> simp_all
theorem goes_lt {x y pr : Int} (h : x < y) : goes x y pr = -(((y - x) * pr).tdiv 16) := by
  unfold goes; rw [if_pos (by omega), if_neg (by omega)]
theorem goes_ge {x y pr : Int} (h : y ≤ x) : goes x y pr = ((x - y) * pr).tdiv 16 := by
  unfold goes; rw [if_neg (by omega), if_pos h]
theorem part_bd {d pr : Int} (hd : 0 ≤ d) (hp : 0 ≤ pr ∧ pr ≤ 16) : 0 ≤ (d * pr).tdiv 16 ∧ (d * pr).tdiv 16 ≤ d := by
  have h0 : 0 ≤ d * pr := Int.mul_nonneg hd hp.1
  have h1 : d * pr ≤ d * 16 := Int.mul_le_mul_of_nonneg_left hp.2 hd
  rw [Int.tdiv_eq_ediv_of_nonneg h0]; omega
theorem goes_bd {x y pr M : Int} (hx : 0 ≤ x ∧ x ≤ M) (hy : 0 ≤ y ∧ y ≤ M) (hp : 0 ≤ pr ∧ pr ≤ 16) : (0 ≤ x - goes x y pr ∧ x - goes x y pr ≤ M) ∧ (0 ≤ y + goes x y pr ∧ y + goes x y pr ≤ M) ∧ (-M ≤ goes x y pr ∧ goes x y pr ≤ M) := by
  by_cases h : x < y
  · have := part_bd (d := y - x) (by omega) hp
    rw [goes_lt h]; omega
  · have := part_bd (d := x - y) (by omega) hp
    rw [goes_ge (by omega)]; omega
/-- one ink goes over within a pair -/
def prI (pr : Int) (s : Sh) (A B a b : Nat) : Sh × Int :=
  if (0 < goes (s.dye A) (s.dye B) pr ∧ s.wet a = 0) ∨ (goes (s.dye A) (s.dye B) pr < 0 ∧ s.wet b = 0) then (s, 0)
  else ((s.ed A (s.dye A - goes (s.dye A) (s.dye B) pr)).ed B (s.dye B + goes (s.dye A) (s.dye B) pr), if 0 ≤ goes (s.dye A) (s.dye B) pr then goes (s.dye A) (s.dye B) pr else -(goes (s.dye A) (s.dye B) pr))
/-- the water goes over within a pair -/
def prW (pr : Int) (s : Sh) (a b : Nat) : Sh := (s.ew a (s.wet a - goes (s.wet a) (s.wet b) pr)).ew b (s.wet b + goes (s.wet a) (s.wet b) pr)
theorem prI_lt {pr : Int} {s : Sh} {A B a b : Nat} (hp : 0 ≤ pr ∧ pr ≤ 16) (hne : A ≠ B) (h : s.dye A < s.dye B) (hw : 0 < s.wet b) :
    prI pr s A B a b = ((s.ed B (s.dye B - ((s.dye B - s.dye A) * pr).tdiv 16)).ed A (s.dye A + ((s.dye B - s.dye A) * pr).tdiv 16), ((s.dye B - s.dye A) * pr).tdiv 16) := by
  have hn := part_bd (d := s.dye B - s.dye A) (by omega) hp
  unfold prI
  rw [goes_lt h]
  generalize ((s.dye B - s.dye A) * pr).tdiv 16 = n at *
  rw [if_neg (by omega), Sh.ed_comm s hne]
  refine Prod.ext ?_ ?_
  · show (s.ed B _).ed A _ = (s.ed B _).ed A _
    rw [show s.dye B + -n = s.dye B - n by omega, show s.dye A - -n = s.dye A + n by omega]
  · show (if 0 ≤ -n then -n else -(-n)) = n
    split <;> omega
theorem prI_same {s : Sh} {A B : Nat} (hne : A ≠ B) : (s.ed A (s.dye A)).ed B (s.dye B) = s := by rw [Sh.ed_same, Sh.ed_same]
theorem prI_lt0 {pr : Int} {s : Sh} {A B a b : Nat} (hp : 0 ≤ pr ∧ pr ≤ 16) (hne : A ≠ B) (h : s.dye A < s.dye B) (hw : s.wet b = 0) : prI pr s A B a b = (s, 0) := by
  have hn := part_bd (d := s.dye B - s.dye A) (by omega) hp
  unfold prI
  rw [goes_lt h]
  generalize ((s.dye B - s.dye A) * pr).tdiv 16 = n at *
  by_cases h0 : n = 0
  · subst h0
    rw [if_neg (by omega), show s.dye A - -0 = s.dye A by omega, show s.dye B + -0 = s.dye B by omega, prI_same hne]; rfl
  · rw [if_pos (Or.inr ⟨by omega, hw⟩)]
theorem prI_ge {pr : Int} {s : Sh} {A B a b : Nat} (hp : 0 ≤ pr ∧ pr ≤ 16) (h : s.dye B ≤ s.dye A) (hw : 0 < s.wet a) :
    prI pr s A B a b = ((s.ed A (s.dye A - ((s.dye A - s.dye B) * pr).tdiv 16)).ed B (s.dye B + ((s.dye A - s.dye B) * pr).tdiv 16), ((s.dye A - s.dye B) * pr).tdiv 16) := by
  have hn := part_bd (d := s.dye A - s.dye B) (by omega) hp
  unfold prI
  rw [goes_ge h]
  generalize ((s.dye A - s.dye B) * pr).tdiv 16 = n at *
  rw [if_neg (by omega), if_pos hn.1]
theorem prI_ge0 {pr : Int} {s : Sh} {A B a b : Nat} (hp : 0 ≤ pr ∧ pr ≤ 16) (hne : A ≠ B) (h : s.dye B ≤ s.dye A) (hw : s.wet a = 0) : prI pr s A B a b = (s, 0) := by
  have hn := part_bd (d := s.dye A - s.dye B) (by omega) hp
  unfold prI
  rw [goes_ge h]
  generalize ((s.dye A - s.dye B) * pr).tdiv 16 = n at *
  by_cases h0 : n = 0
  · subst h0
    rw [if_neg (by omega), Int.sub_zero, Int.add_zero, prI_same hne]; rfl
  · rw [if_pos (Or.inl ⟨by omega, hw⟩)]
theorem prW_lt {pr : Int} {s : Sh} {a b : Nat} (hne : a ≠ b) (h : s.wet a < s.wet b) : prW pr s a b = (s.ew b (s.wet b - ((s.wet b - s.wet a) * pr).tdiv 16)).ew a (s.wet a + ((s.wet b - s.wet a) * pr).tdiv 16) := by
  unfold prW
  rw [goes_lt h]
  generalize ((s.wet b - s.wet a) * pr).tdiv 16 = n at *
  rw [Sh.ew_comm s hne, show s.wet b + -n = s.wet b - n by omega, show s.wet a - -n = s.wet a + n by omega]
theorem prW_ge {pr : Int} {s : Sh} {a b : Nat} (h : s.wet b ≤ s.wet a) : prW pr s a b = (s.ew a (s.wet a - ((s.wet a - s.wet b) * pr).tdiv 16)).ew b (s.wet b + ((s.wet a - s.wet b) * pr).tdiv 16) := by
  unfold prW
  rw [goes_ge h]
/-- so many inks have gone over within a pair -/
def prC (pr : Int) (s : Sh) (p q a b : Nat) : Nat → Sh × Int
  | 0 => (s, 0)
  | m + 1 => ((prI pr (prC pr s p q a b m).1 (p + m) (q + m) a b).1, (prC pr s p q a b m).2 + (prI pr (prC pr s p q a b m).1 (p + m) (q + m) a b).2)
def wb (p : Sp8) : Nat := 8 * p.1.2 + p.1.1
def prP (pr : Int) (s : Sh) (p q : Sp8) : Sh × Int := (prW pr (prC pr s (cb p) (cb q) (wb p) (wb q) 3).1 (wb p) (wb q), (prC pr s (cb p) (cb q) (wb p) (wb q) 3).2)
/-- pairs are pressed -/
def prL (pr ax : Int) (d : Bool) (s : Sh) (L : List Sp8) : Sh × Int := L.foldl (fun t p => ((prP pr t.1 p (sgP ax d p)).1, t.2 + (prP pr t.1 p (sgP ax d p)).2)) (s, 0)
theorem prL_app (pr ax : Int) (d : Bool) (s : Sh) (L : List Sp8) (p : Sp8) : prL pr ax d s (L ++ [p]) = ((prP pr (prL pr ax d s L).1 p (sgP ax d p)).1, (prL pr ax d s L).2 + (prP pr (prL pr ax d s L).1 p (sgP ax d p)).2) := by unfold prL; rw [List.foldl_append]; rfl
/-- dyes and waters within bounds -/
def bdP (s : Sh) : Prop := bdS s ∧ ∀ j, j < 64 → 0 ≤ s.wet j ∧ s.wet j ≤ 1000
theorem bdP_ed {s : Sh} (h : bdP s) (j : Nat) {v : Int} (hv : 0 ≤ v ∧ v ≤ 1000) : bdP (s.ed j v) := ⟨ed_bd h.1 j hv, h.2⟩
theorem bdP_ew {s : Sh} (h : bdP s) (j : Nat) {v : Int} (hv : 0 ≤ v ∧ v ≤ 1000) : bdP (s.ew j v) := ⟨h.1, fun i hi => by
  unfold Sh.ew
  simp only
  split
  · exact hv
  · exact h.2 i hi⟩
theorem prI_bd {pr : Int} {s : Sh} {A B a b : Nat} (h : bdP s) (hp : 0 ≤ pr ∧ pr ≤ 16) (hA : A < 192) (hB : B < 192) : bdP (prI pr s A B a b).1 ∧ 0 ≤ (prI pr s A B a b).2 ∧ (prI pr s A B a b).2 ≤ 1000 := by
  have hg := goes_bd (h.1 A hA) (h.1 B hB) hp
  unfold prI
  generalize goes (s.dye A) (s.dye B) pr = g at *
  split
  · exact ⟨h, by omega, by omega⟩
  · exact ⟨bdP_ed (bdP_ed h _ hg.1) _ hg.2.1, by dsimp only; split <;> omega, by dsimp only; split <;> omega⟩
theorem prC_bd {pr : Int} {s : Sh} {p q a b : Nat} (h : bdP s) (hp : 0 ≤ pr ∧ pr ≤ 16) : ∀ m, p + m ≤ 192 → q + m ≤ 192 → bdP (prC pr s p q a b m).1 ∧ 0 ≤ (prC pr s p q a b m).2 ∧ (prC pr s p q a b m).2 ≤ 1000 * m
  | 0, _, _ => ⟨h, Int.le_refl _, Int.le_refl _⟩
  | m + 1, h1, h2 => by
    have ih := prC_bd (p := p) (q := q) (a := a) (b := b) h hp m (by omega) (by omega)
    have := prI_bd (a := a) (b := b) ih.1 hp (show p + m < 192 by omega) (show q + m < 192 by omega)
    exact ⟨this.1, by show 0 ≤ _ + _; omega, by show _ + _ ≤ _; omega⟩
theorem wb_lt (p : Sp8) : wb p < 64 := by have := p.2.1; have := p.2.2; unfold wb; omega
theorem prW_bd {pr : Int} {s : Sh} {a b : Nat} (h : bdP s) (hp : 0 ≤ pr ∧ pr ≤ 16) (ha : a < 64) (hb : b < 64) : bdP (prW pr s a b) := by
  have hg := goes_bd (h.2 a ha) (h.2 b hb) hp
  exact bdP_ew (bdP_ew h _ hg.1) _ hg.2.1
theorem prP_bd {pr : Int} {s : Sh} (h : bdP s) (hp : 0 ≤ pr ∧ pr ≤ 16) (p q : Sp8) : bdP (prP pr s p q).1 ∧ 0 ≤ (prP pr s p q).2 ∧ (prP pr s p q).2 ≤ 3000 := by
  have := prC_bd (a := wb p) (b := wb q) h hp 3 (cb_lt p) (cb_lt q)
  exact ⟨prW_bd this.1 hp (wb_lt p) (wb_lt q), this.2.1, this.2.2⟩
theorem prL_bd {pr ax : Int} {d : Bool} {s : Sh} (h : bdP s) (hp : 0 ≤ pr ∧ pr ≤ 16) : ∀ n (L : List Sp8), L.length = n → bdP (prL pr ax d s L).1 ∧ 0 ≤ (prL pr ax d s L).2 ∧ (prL pr ax d s L).2 ≤ 3000 * n := by
  intro n
  induction n with
  | zero => intro L hl; obtain rfl := List.length_eq_zero_iff.1 hl; exact ⟨h, Int.le_refl _, Int.le_refl _⟩
  | succ n ih =>
    intro L hl
    obtain ⟨qs, q, rfl⟩ : ∃ qs q, L = qs ++ [q] := ⟨L.dropLast, L.getLast (by intro e; simp [e] at hl), (List.dropLast_concat_getLast _).symm⟩
    have h1 := ih qs (by simpa using hl)
    rw [prL_app]
    have h2 := prP_bd (pr := pr) h1.1 hp q (sgP ax d q)
    exact ⟨h2.1, by show 0 ≤ _ + _; omega, by show _ + _ ≤ _; omega⟩
theorem inP_ne {ax : Int} {d : Bool} {p q : Sp8} (h : ((q.1.1 : Nat) : Int) = prX ax d p.1.1 ∧ ((q.1.2 : Nat) : Int) = prY ax d p.1.2) (hx : 1 ≤ ax ∧ ax ≤ 8) : wb p ≠ wb q := by
  have := p.2.1; have := p.2.2; have := q.2.1; have := q.2.2
  unfold wb
  obtain ⟨h1, h2⟩ := h
  unfold prX at h1; unfold prY at h2
  cases d <;> simp at h1 h2 <;> omega
theorem wb_cb {p q : Sp8} (h : wb p ≠ wb q) (m : Nat) : cb p + m ≠ cb q + m := by
  have := p.2.1; have := p.2.2; have := q.2.1; have := q.2.2
  unfold wb at h; unfold cb; omega
/-- what pressing leaves -/
def kept (s t : Sh) : Prop := t.wide = s.wide ∧ t.high = s.high ∧ t.wax = s.wax
theorem kept_refl (s : Sh) : kept s s := ⟨rfl, rfl, rfl⟩
theorem kept_tr {s t u : Sh} (h : kept s t) (g : kept t u) : kept s u := ⟨g.1.trans h.1, g.2.1.trans h.2.1, g.2.2.trans h.2.2⟩
theorem prI_kept (pr : Int) (s : Sh) (A B a b : Nat) : kept s (prI pr s A B a b).1 := by unfold prI; split <;> exact ⟨rfl, rfl, rfl⟩
theorem prC_kept (pr : Int) (s : Sh) (p q a b : Nat) : ∀ m, kept s (prC pr s p q a b m).1
  | 0 => kept_refl s
  | m + 1 => kept_tr (prC_kept pr s p q a b m) (prI_kept ..)
theorem prP_kept (pr : Int) (s : Sh) (p q : Sp8) : kept s (prP pr s p q).1 := kept_tr (prC_kept pr s _ _ _ _ 3) ⟨rfl, rfl, rfl⟩
theorem prL_kept (pr ax : Int) (d : Bool) (s : Sh) (L : List Sp8) : kept s (prL pr ax d s L).1 := by
  unfold prL
  suffices h : ∀ t : Sh × Int, kept s t.1 → kept s (L.foldl (fun t p => ((prP pr t.1 p (sgP ax d p)).1, t.2 + (prP pr t.1 p (sgP ax d p)).2)) t).1 from h (s, 0) (kept_refl s)
  induction L with
  | nil => intro t h; exact h
  | cons p L ih => intro t h; exact ih _ (kept_tr h (prP_kept pr t.1 p _))
theorem prsL_kept {s t : Sh} (h : kept s t) (a c : Nat) (ax : Int) (d : Bool) : prsL t a c ax d = prsL s a c ax d := by
  unfold prsL
  congr 1
  funext p
  unfold goodP waxB
  rw [h.2.2]
theorem fit_bd {s t : Sh} (h : kept s t) (hf : s.fit) (hb : bdP t) : t.fit :=
  ⟨by rw [h.1]; exact hf.wide, by rw [h.2.1]; exact hf.high, fun i hi => by have := hb.2 i hi; omega, fun i hi => by have := hb.1 i hi; omega, fun i hi => by rw [h.2.2]; exact hf.wax i hi⟩
end Go.Proofs.YtmcpaangofdmpaaDoor
namespace Go.Proofs.YtmcpaangofdmpaaDoor
open Go.RowKit
set_option maxRecDepth 100000
set_option linter.unusedVariables false
set_option linter.unusedSimpArgs false
/-- a sheet's cells in front of others -/
def mixS (s : Sh) (f : Nat → Value) (i : Nat) : Value := if i < 266 then s.at i else f i
theorem mixS_ed (s : Sh) (f : Nat → Value) (o j : Nat) (ho : o = 66 + j) (hj : j < 192) (v : Int) : over (mixS s f) o 1 (fun _ => .int .i16 v) = mixS (s.ed j v) f := funext fun i => by
  have h := congrFun (Sh.ed_over s o j ho hj v) i
  subst ho
  unfold over at *
  unfold mixS
  by_cases h1 : 66 + j ≤ i ∧ i < 66 + j + 1
  · rw [if_pos h1] at h ⊢; rw [if_pos (by omega), h]
  · rw [if_neg h1] at h ⊢; rw [h]
theorem mixS_ew (s : Sh) (f : Nat → Value) (o j : Nat) (ho : o = 2 + j) (hj : j < 64) (v : Int) : over (mixS s f) o 1 (fun _ => .int .i16 v) = mixS (s.ew j v) f := funext fun i => by
  have h := congrFun (Sh.ew_over s o j ho hj v) i
  subst ho
  unfold over at *
  unfold mixS
  by_cases h1 : 2 + j ≤ i ∧ i < 2 + j + 1
  · rw [if_pos h1] at h ⊢; rw [if_pos (by omega), h]
  · rw [if_neg h1] at h ⊢; rw [h]
theorem mixS_dye (s : Sh) (f : Nat → Value) (o j : Nat) (ho : o = 66 + j) (hj : j < 192) : mixS s f o = .int .i16 (s.dye j) := by
  unfold mixS; rw [if_pos (by omega), Sh.at_dye1 s o j (by omega) (by omega)]
theorem mixS_wet (s : Sh) (f : Nat → Value) (o j : Nat) (ho : o = 2 + j) (hj : j < 64) : mixS s f o = .int .i16 (s.wet j) := by
  unfold mixS Sh.at; rw [if_pos (by omega), if_neg (by omega), if_neg (by omega), if_pos (by omega), ho, show 2 + j - 2 = j by omega]
theorem p4_s0 (x y u v : Int) : vrow 2 (fun i => p4 x y u v (0 + i)) = vrow 2 (spAt x y) := rfl
theorem p4_s1 (x y u v : Int) : vrow 2 (fun i => p4 x y u v (2 + i)) = vrow 2 (spAt u v) := rfl
/-- THE RESULTS: two rows. -/
theorem ret_rows2 {P : Program} {fn : Func} {R : Ending → World → Prop} {a : Act} {w : World} {p u : Tmp} {ty : TypeId} (hr : fn.results = #[.cell p ty, .cell u ty]) (b b2 : Nat) (n : Nat) (f f2 : Nat → Value) (t : TypeId) (d : TypeDesc) (hu : P.underlying ty = some d) (hd : d.isRow = true) (hi : (P.info? ty).map (·.size) = some n)
    (hp : a.tmps.getD p undef = .pointer (some ⟨b, 0, none⟩)) (hv : a.tmps.getD u undef = .pointer (some ⟨b2, 0, none⟩)) (hdf : a.defers = []) (hg : w.heap[b]? = some (.cells (vrow n f) t)) (hg2 : w.heap[b2]? = some (.cells (vrow n f2) t)) (h : R (.returned (.tuple #[.agg (vrow n f), .agg (vrow n f2)])) w) : bodyPost P fn R .ret a w := by
  refine bodyPost_ret ?_ hdf h
  have hl := run_loadVar_row (P := P) w b t ty (vrow n f) (0, 0) d hg hu (by cases d <;> first | rfl | exact hd) (by rw [vrow_size]; exact hi)
  have hl2 := run_loadVar_row (P := P) w b2 t ty (vrow n f2) (0, 0) d hg2 hu (by cases d <;> first | rfl | exact hd) (by rw [vrow_size]; exact hi)
  have hp' : a.tmps[p]?.getD undef = .pointer (some ⟨b, 0, none⟩) := by simpa using hp
  have hv1 : a.tmps[u]?.getD undef = .pointer (some ⟨b2, 0, none⟩) := by simpa using hv
  simp [results, hr, hp', hv1, asAddr, hl, hl2, Result.andThen]
set_option maxRecDepth 100000 in
set_option maxHeartbeats 4000000 in
theorem fallW_any (s : Sh) (f : Nat → Value) (sb b x y u v N : Nat) (ty : TypeId) (w : World) (hN : 266 ≤ N) (hs : w.heap[sb]? = some (.cells (vrow N (mixS s f)) ty)) (h1 : w.heap[b]? = some (.cells (vrow 1 fun _ => .pointer (some ⟨sb, 0, none⟩)) 73)) (hx : x < 8) (hy : y < 8) (hu : u < 8) (hv : v < 8) : Calls Tryd.prog 148 #[.agg (vrow 4 (p4 x y u v)), .func (.func 146) #[] #[.pointer (some ⟨b, 0, none⟩)]] w fun e w' => e = .returned (if s.wet (8 * y + x) < s.wet (8 * v + u) then .tuple #[.agg (vrow 2 (spAt u v)), .agg (vrow 2 (spAt x y))] else .tuple #[.agg (vrow 2 (spAt x y)), .agg (vrow 2 (spAt u v))]) ∧ Below w.heap.size w w' := by
  have zs := zero_spot
  have HC := Go.Lib.hid fun (x y : Nat) (w : World) h hx hy => wetP_any sb b x y w h hx hy
  obtain ⟨vA, hA⟩ : ∃ z, s.wet (8 * y + x) = z := ⟨_, rfl⟩
  obtain ⟨vB, hBv⟩ : ∃ z, s.wet (8 * v + u) = z := ⟨_, rfl⟩
  have EA : Hid (mixS s f (2 + y * 8 + x) = .int .i16 vA) := Go.Lib.hid (by rw [← hA]; exact mixS_wet s f _ _ (show 2 + y * 8 + x = 2 + (8 * y + x) by omega) (by omega))
  have EB : Hid (mixS s f (2 + v * 8 + u) = .int .i16 vB) := Go.Lib.hid (by rw [← hBv]; exact mixS_wet s f _ _ (show 2 + v * 8 + u = 2 + (8 * v + u) by omega) (by omega))
  rw [hA, hBv]
  clear hA hBv
  have oA : 2 + y * 8 + x < N := by omega
  have oB : 2 + v * 8 + u < N := by omega
  have R : Hid ((((w.alloc (.cells (vrow 4 (p4 x y u v)) 130)).alloc (.cells (vrow 2 (spAt 0 0)) 111)).alloc (.cells (vrow 2 (spAt 0 0)) 111)).heap[w.heap.size]? = some (.cells (vrow 4 (p4 x y u v)) 130)) := (heap_past _ _ _ _ (by simp <;> omega) (heap_past _ _ _ _ (by simp <;> omega) (heap_at _ _ _ (by simp))))
  have X : Hid ((((w.alloc (.cells (vrow 4 (p4 x y u v)) 130)).alloc (.cells (vrow 2 (spAt 0 0)) 111)).alloc (.cells (vrow 2 (spAt 0 0)) 111)).heap[w.heap.size + 1]? = some (.cells (vrow 2 (spAt 0 0)) 111)) := (heap_past _ _ _ _ (by simp <;> omega) (heap_at _ _ _ (by simp)))
  have Y : Hid ((((w.alloc (.cells (vrow 4 (p4 x y u v)) 130)).alloc (.cells (vrow 2 (spAt 0 0)) 111)).alloc (.cells (vrow 2 (spAt 0 0)) 111)).heap[w.heap.size + 2]? = some (.cells (vrow 2 (spAt 0 0)) 111)) := (heap_at _ _ _ (by simp))
  have hB : Hid (Below w.heap.size w (((w.alloc (.cells (vrow 4 (p4 x y u v)) 130)).alloc (.cells (vrow 2 (spAt 0 0)) 111)).alloc (.cells (vrow 2 (spAt 0 0)) 111))) := Go.Lib.hid ((((Below.refl w.heap.size w).alloc (by simp <;> omega) _).alloc (by simp <;> omega) _).alloc (by simp <;> omega) _)
  have S : Hid ((((w.alloc (.cells (vrow 4 (p4 x y u v)) 130)).alloc (.cells (vrow 2 (spAt 0 0)) 111)).alloc (.cells (vrow 2 (spAt 0 0)) 111)).heap[sb]? = some (.cells (vrow N (mixS s f)) ty)) := heap_past _ _ _ _ (by have := row_lt hs; simp; omega) (heap_past _ _ _ _ (by have := row_lt hs; simp; omega) (heap_past _ _ _ _ (row_lt hs) hs))
  have P : Hid ((((w.alloc (.cells (vrow 4 (p4 x y u v)) 130)).alloc (.cells (vrow 2 (spAt 0 0)) 111)).alloc (.cells (vrow 2 (spAt 0 0)) 111)).heap[b]? = some (.cells (vrow 1 fun _ => .pointer (some ⟨sb, 0, none⟩)) 73)) := heap_past _ _ _ _ (by have := row_lt h1; simp; omega) (heap_past _ _ _ _ (by have := row_lt h1; simp; omega) (heap_past _ _ _ _ (row_lt h1) h1))
  clear hs h1
  generalize mixS s f = F at *
  by_cases hlt : vA < vB
  · have hl : decide (vA < vB) = true := by simpa using hlt
    rw [if_pos hlt]
    go_enter Tryd.func148, Tryd.ntmps148
    go_wp2
    refine region_at (by kernel_rfl) (by kernel_rfl) ?_
    intro W hW
    rw [hW] at hB S P R X Y
    clear hW
    have S' := Go.Lib.hid (cls_row' S.out); have R' := Go.Lib.hid (cls_row' R.out)
    (repeat (first
      | go_big_quiet_skip
      | (refine wpQuiet_loadmid 111 _ rfl (by first | exact want_n rfl | exact want_g _ _ _ rfl rfl rfl) w.heap.size 0 rfl 4 2 (p4 x y u v) _ rw_spot size_spot R'.out (by omega) ?_; rw [p4_s0]; simp only [Act.put, List.setIfInBounds_toArray, List.set_cons_succ, List.set_cons_zero])
      | (refine wpQuiet_loadmid 111 _ rfl (by first | exact want_n rfl | exact want_g _ _ _ rfl rfl rfl) w.heap.size 2 rfl 4 2 (p4 x y u v) _ rw_spot size_spot R'.out (by omega) ?_; rw [p4_s1]; simp only [Act.put, List.setIfInBounds_toArray, List.set_cons_succ, List.set_cons_zero])
      | (refine wpQuiet_load1 23 _ rfl (by first | exact want_n rfl | exact want_g _ _ _ rfl rfl rfl) sb (2 + y * 8 + x) rfl N F _ rw_i16 S'.out oA ?_; rw [EA.out]; simp only [Act.put, List.setIfInBounds_toArray, List.set_cons_succ, List.set_cons_zero])
      | (refine wpQuiet_load1 23 _ rfl (by first | exact want_n rfl | exact want_g _ _ _ rfl rfl rfl) sb (2 + v * 8 + u) rfl N F _ rw_i16 S'.out oB ?_; rw [EB.out]; simp only [Act.put, List.setIfInBounds_toArray, List.set_cons_succ, List.set_cons_zero])
      | go_big_quiet_step ((go_at_call 146; exact cls_call _ (fun w hw => HC.out _ _ w (row_next hw P.out) (by assumption) (by assumption))))
      | go_big_quiet_step (fail)))
    refine wpQuiet_nil ?_
    intro W2 hb
    replace R := Go.Lib.hid (row_next hb R.out); replace X := Go.Lib.hid (row_next hb X.out); replace Y := Go.Lib.hid (row_next hb Y.out); replace hB := Go.Lib.hid (below_next hB.out hb)
    clear hb S' R' S P
    go_wp2
    refine Code.wp_mono (Q := fun e a' W' => e = .normal ∧ a'.tmps.getD 4 undef = .pointer (some ⟨w.heap.size + 1, 0, none⟩) ∧ a'.tmps.getD 5 undef = .pointer (some ⟨w.heap.size + 2, 0, none⟩) ∧ a'.defers = [] ∧ Below w.heap.size w W' ∧ W'.heap[w.heap.size + 1]? = some (.cells (vrow 2 (spAt u v)) 111) ∧ W'.heap[w.heap.size + 2]? = some (.cells (vrow 2 (spAt x y)) 111)) ?_ ?_
    rotate_left
    · refine wp_region_held_drew (S := fun X => X.heap[w.heap.size]? = some (.cells (vrow 4 (p4 x y u v)) 130) ∧ Below w.heap.size w X) (by kernel_rfl) ⟨drwP R.out, hB.out.drew⟩ (fun hH => ?_)
      have V4 := drwP X.out; have V5 := drwP Y.out
      clear hB R X Y
      generalize World.drew _ = W at hH V4 V5 ⊢
      refine wpAnyH_take (i := 0) (v := .pointer (some ⟨w.heap.size, 2, none⟩)) rfl (by kernel_rfl) (by kernel_rfl) (by kernel_rfl) (fun _ _ _ h => by cases h.1) (.inl ⟨by kernel_rfl, fun w hw => by go_simp⟩) hH ?_
      (try simp only [List.getElem_toArray, List.getElem_cons_succ, List.getElem_cons_zero, Act.put, List.setIfInBounds_toArray, List.set_cons_succ, List.set_cons_zero])
      refine wpAnyH_take (i := 1) (v := .agg (vrow 2 (spAt u v))) rfl (by kernel_rfl) (by kernel_rfl) (by kernel_rfl) (fun _ _ _ h => by cases h.1) (yields_m (by kernel_rfl) 111 _ rfl w.heap.size 2 rfl 4 2 (p4 x y u v) (vrow 2 (spAt u v)) (by omega) 130 _ Tryd.underlying111 rfl size_spot (p4_s1 _ _ _ _) (fun _ h => h.1)) hH ?_
      (try simp only [List.getElem_toArray, List.getElem_cons_succ, List.getElem_cons_zero, Act.put, List.setIfInBounds_toArray, List.set_cons_succ, List.set_cons_zero])
      refine wpAnyH_take (i := 2) (v := .pointer (some ⟨w.heap.size, 0, none⟩)) rfl (by kernel_rfl) (by kernel_rfl) (by kernel_rfl) (fun _ _ _ h => by cases h.1) (.inl ⟨by kernel_rfl, fun w hw => by go_simp⟩) hH ?_
      (try simp only [List.getElem_toArray, List.getElem_cons_succ, List.getElem_cons_zero, Act.put, List.setIfInBounds_toArray, List.set_cons_succ, List.set_cons_zero])
      refine wpAnyH_take (i := 3) (v := .agg (vrow 2 (spAt x y))) rfl (by kernel_rfl) (by kernel_rfl) (by kernel_rfl) (fun _ _ _ h => by cases h.1) (yields_m (by kernel_rfl) 111 _ rfl w.heap.size 0 rfl 4 2 (p4 x y u v) (vrow 2 (spAt x y)) (by omega) 130 _ Tryd.underlying111 rfl size_spot (p4_s0 _ _ _ _) (fun _ h => h.1)) hH ?_
      (try simp only [List.getElem_toArray, List.getElem_cons_succ, List.getElem_cons_zero, Act.put, List.setIfInBounds_toArray, List.set_cons_succ, List.set_cons_zero])
      refine wpAnyH_ready (rs := [4]) (by kernel_rfl) (by simp) (AllReadyH.cons rfl (fun K hK => ?_) AllReadyH.nil)
      rw [if_pos (by rfl)]
      unfold Oper.wp
      rw [run_storemid 111 (.tmp 4) (.tmp 20) rfl (w.heap.size + 1) 0 rfl 2 2 (spAt 0 0) (spAt u v) rfl 111 size_spot V4 (by omega) (fun i _ => spAt_one _ _ i), vrow_over_all, Oper.upon_skip]
      replace V4 := row_set V4 (vrow 2 (spAt u v)); replace V5 := row_set' (g := w.heap.size + 1) (by omega) V5 (vrow 2 (spAt u v))
      have hH2 : (W.setRow (w.heap.size + 1) (vrow 2 (spAt u v))).heap[w.heap.size]? = some (.cells (vrow 4 (p4 x y u v)) 130) ∧ Below w.heap.size w (W.setRow (w.heap.size + 1) (vrow 2 (spAt u v))) := ⟨row_set' (g := w.heap.size + 1) (by omega) hH.1 (vrow 2 (spAt u v)), Below_setRow hH.2 (show w.heap.size ≤ w.heap.size + 1 by omega) (vrow 2 (spAt u v))⟩
      refine hK.out _ _ hH2 (fun hH => ?_)
      clear hK K hH2
      (try simp only [List.getElem_toArray, List.getElem_cons_succ, List.getElem_cons_zero, Act.put, List.setIfInBounds_toArray, List.set_cons_succ, List.set_cons_zero])
      refine wpAnyH_ready (rs := [5]) (by kernel_rfl) (by simp) (AllReadyH.cons rfl (fun K hK => ?_) AllReadyH.nil)
      rw [if_pos (by rfl)]
      unfold Oper.wp
      rw [run_storemid 111 (.tmp 5) (.tmp 22) rfl (w.heap.size + 2) 0 rfl 2 2 (spAt 0 0) (spAt x y) rfl 111 size_spot V5 (by omega) (fun i _ => spAt_one _ _ i), vrow_over_all, Oper.upon_skip]
      replace V5 := row_set V5 (vrow 2 (spAt x y)); replace V4 := row_set' (g := w.heap.size + 2) (by omega) V4 (vrow 2 (spAt x y))
      have hH2 : ((W.setRow (w.heap.size + 1) (vrow 2 (spAt u v))).setRow (w.heap.size + 2) (vrow 2 (spAt x y))).heap[w.heap.size]? = some (.cells (vrow 4 (p4 x y u v)) 130) ∧ Below w.heap.size w ((W.setRow (w.heap.size + 1) (vrow 2 (spAt u v))).setRow (w.heap.size + 2) (vrow 2 (spAt x y))) := ⟨row_set' (g := w.heap.size + 2) (by omega) hH.1 (vrow 2 (spAt x y)), Below_setRow hH.2 (show w.heap.size ≤ w.heap.size + 2 by omega) (vrow 2 (spAt x y))⟩
      refine hK.out _ _ hH2 (fun hH => ?_)
      clear hK K hH2
      (try simp only [List.getElem_toArray, List.getElem_cons_succ, List.getElem_cons_zero, Act.put, List.setIfInBounds_toArray, List.set_cons_succ, List.set_cons_zero])
      refine wpAnyH_done (by kernel_rfl) ?_ _
      exact ⟨rfl, rfl, rfl, rfl, hH.2, V4, V5⟩
    rintro e1 a1 W1 ⟨rfl, h4, h5, hdf, hB1, V4, V5⟩
    go_wp2
    exact ret_rows2 Tryd.results148 (w.heap.size + 1) (w.heap.size + 2) 2 (spAt u v) (spAt x y) 111 _ Tryd.underlying111 rfl size_spot h4 h5 hdf V4 V5 ⟨rfl, hB1⟩
  · have hl : decide (vA < vB) = false := by simpa using hlt
    rw [if_neg hlt]
    go_enter Tryd.func148, Tryd.ntmps148
    go_wp2
    refine region_at (by kernel_rfl) (by kernel_rfl) ?_
    intro W hW
    rw [hW] at hB S P R X Y
    clear hW
    have S' := Go.Lib.hid (cls_row' S.out); have R' := Go.Lib.hid (cls_row' R.out)
    (repeat (first
      | go_big_quiet_skip
      | (refine wpQuiet_loadmid 111 _ rfl (by first | exact want_n rfl | exact want_g _ _ _ rfl rfl rfl) w.heap.size 0 rfl 4 2 (p4 x y u v) _ rw_spot size_spot R'.out (by omega) ?_; rw [p4_s0]; simp only [Act.put, List.setIfInBounds_toArray, List.set_cons_succ, List.set_cons_zero])
      | (refine wpQuiet_loadmid 111 _ rfl (by first | exact want_n rfl | exact want_g _ _ _ rfl rfl rfl) w.heap.size 2 rfl 4 2 (p4 x y u v) _ rw_spot size_spot R'.out (by omega) ?_; rw [p4_s1]; simp only [Act.put, List.setIfInBounds_toArray, List.set_cons_succ, List.set_cons_zero])
      | (refine wpQuiet_load1 23 _ rfl (by first | exact want_n rfl | exact want_g _ _ _ rfl rfl rfl) sb (2 + y * 8 + x) rfl N F _ rw_i16 S'.out oA ?_; rw [EA.out]; simp only [Act.put, List.setIfInBounds_toArray, List.set_cons_succ, List.set_cons_zero])
      | (refine wpQuiet_load1 23 _ rfl (by first | exact want_n rfl | exact want_g _ _ _ rfl rfl rfl) sb (2 + v * 8 + u) rfl N F _ rw_i16 S'.out oB ?_; rw [EB.out]; simp only [Act.put, List.setIfInBounds_toArray, List.set_cons_succ, List.set_cons_zero])
      | go_big_quiet_step ((go_at_call 146; exact cls_call _ (fun w hw => HC.out _ _ w (row_next hw P.out) (by assumption) (by assumption))))
      | go_big_quiet_step (fail)))
    refine wpQuiet_nil ?_
    intro W2 hb
    replace R := Go.Lib.hid (row_next hb R.out); replace X := Go.Lib.hid (row_next hb X.out); replace Y := Go.Lib.hid (row_next hb Y.out); replace hB := Go.Lib.hid (below_next hB.out hb)
    clear hb S' R' S P
    go_wp2
    refine Code.wp_mono (Q := fun e a' W' => e = .normal ∧ a'.tmps.getD 4 undef = .pointer (some ⟨w.heap.size + 1, 0, none⟩) ∧ a'.tmps.getD 5 undef = .pointer (some ⟨w.heap.size + 2, 0, none⟩) ∧ a'.defers = [] ∧ Below w.heap.size w W' ∧ W'.heap[w.heap.size + 1]? = some (.cells (vrow 2 (spAt x y)) 111) ∧ W'.heap[w.heap.size + 2]? = some (.cells (vrow 2 (spAt u v)) 111)) ?_ ?_
    rotate_left
    · refine wp_region_held_drew (S := fun X => X.heap[w.heap.size]? = some (.cells (vrow 4 (p4 x y u v)) 130) ∧ Below w.heap.size w X) (by kernel_rfl) ⟨drwP R.out, hB.out.drew⟩ (fun hH => ?_)
      have V4 := drwP X.out; have V5 := drwP Y.out
      clear hB R X Y
      generalize World.drew _ = W at hH V4 V5 ⊢
      refine wpAnyH_take (i := 0) (v := .pointer (some ⟨w.heap.size, 0, none⟩)) rfl (by kernel_rfl) (by kernel_rfl) (by kernel_rfl) (fun _ _ _ h => by cases h.1) (.inl ⟨by kernel_rfl, fun w hw => by go_simp⟩) hH ?_
      (try simp only [List.getElem_toArray, List.getElem_cons_succ, List.getElem_cons_zero, Act.put, List.setIfInBounds_toArray, List.set_cons_succ, List.set_cons_zero])
      refine wpAnyH_take (i := 1) (v := .agg (vrow 2 (spAt x y))) rfl (by kernel_rfl) (by kernel_rfl) (by kernel_rfl) (fun _ _ _ h => by cases h.1) (yields_m (by kernel_rfl) 111 _ rfl w.heap.size 0 rfl 4 2 (p4 x y u v) (vrow 2 (spAt x y)) (by omega) 130 _ Tryd.underlying111 rfl size_spot (p4_s0 _ _ _ _) (fun _ h => h.1)) hH ?_
      (try simp only [List.getElem_toArray, List.getElem_cons_succ, List.getElem_cons_zero, Act.put, List.setIfInBounds_toArray, List.set_cons_succ, List.set_cons_zero])
      refine wpAnyH_take (i := 2) (v := .pointer (some ⟨w.heap.size, 2, none⟩)) rfl (by kernel_rfl) (by kernel_rfl) (by kernel_rfl) (fun _ _ _ h => by cases h.1) (.inl ⟨by kernel_rfl, fun w hw => by go_simp⟩) hH ?_
      (try simp only [List.getElem_toArray, List.getElem_cons_succ, List.getElem_cons_zero, Act.put, List.setIfInBounds_toArray, List.set_cons_succ, List.set_cons_zero])
      refine wpAnyH_take (i := 3) (v := .agg (vrow 2 (spAt u v))) rfl (by kernel_rfl) (by kernel_rfl) (by kernel_rfl) (fun _ _ _ h => by cases h.1) (yields_m (by kernel_rfl) 111 _ rfl w.heap.size 2 rfl 4 2 (p4 x y u v) (vrow 2 (spAt u v)) (by omega) 130 _ Tryd.underlying111 rfl size_spot (p4_s1 _ _ _ _) (fun _ h => h.1)) hH ?_
      (try simp only [List.getElem_toArray, List.getElem_cons_succ, List.getElem_cons_zero, Act.put, List.setIfInBounds_toArray, List.set_cons_succ, List.set_cons_zero])
      refine wpAnyH_ready (rs := [4]) (by kernel_rfl) (by simp) (AllReadyH.cons rfl (fun K hK => ?_) AllReadyH.nil)
      rw [if_pos (by rfl)]
      unfold Oper.wp
      rw [run_storemid 111 (.tmp 4) (.tmp 24) rfl (w.heap.size + 1) 0 rfl 2 2 (spAt 0 0) (spAt x y) rfl 111 size_spot V4 (by omega) (fun i _ => spAt_one _ _ i), vrow_over_all, Oper.upon_skip]
      replace V4 := row_set V4 (vrow 2 (spAt x y)); replace V5 := row_set' (g := w.heap.size + 1) (by omega) V5 (vrow 2 (spAt x y))
      have hH2 : (W.setRow (w.heap.size + 1) (vrow 2 (spAt x y))).heap[w.heap.size]? = some (.cells (vrow 4 (p4 x y u v)) 130) ∧ Below w.heap.size w (W.setRow (w.heap.size + 1) (vrow 2 (spAt x y))) := ⟨row_set' (g := w.heap.size + 1) (by omega) hH.1 (vrow 2 (spAt x y)), Below_setRow hH.2 (show w.heap.size ≤ w.heap.size + 1 by omega) (vrow 2 (spAt x y))⟩
      refine hK.out _ _ hH2 (fun hH => ?_)
      clear hK K hH2
      (try simp only [List.getElem_toArray, List.getElem_cons_succ, List.getElem_cons_zero, Act.put, List.setIfInBounds_toArray, List.set_cons_succ, List.set_cons_zero])
      refine wpAnyH_ready (rs := [5]) (by kernel_rfl) (by simp) (AllReadyH.cons rfl (fun K hK => ?_) AllReadyH.nil)
      rw [if_pos (by rfl)]
      unfold Oper.wp
      rw [run_storemid 111 (.tmp 5) (.tmp 26) rfl (w.heap.size + 2) 0 rfl 2 2 (spAt 0 0) (spAt u v) rfl 111 size_spot V5 (by omega) (fun i _ => spAt_one _ _ i), vrow_over_all, Oper.upon_skip]
      replace V5 := row_set V5 (vrow 2 (spAt u v)); replace V4 := row_set' (g := w.heap.size + 2) (by omega) V4 (vrow 2 (spAt u v))
      have hH2 : ((W.setRow (w.heap.size + 1) (vrow 2 (spAt x y))).setRow (w.heap.size + 2) (vrow 2 (spAt u v))).heap[w.heap.size]? = some (.cells (vrow 4 (p4 x y u v)) 130) ∧ Below w.heap.size w ((W.setRow (w.heap.size + 1) (vrow 2 (spAt x y))).setRow (w.heap.size + 2) (vrow 2 (spAt u v))) := ⟨row_set' (g := w.heap.size + 2) (by omega) hH.1 (vrow 2 (spAt u v)), Below_setRow hH.2 (show w.heap.size ≤ w.heap.size + 2 by omega) (vrow 2 (spAt u v))⟩
      refine hK.out _ _ hH2 (fun hH => ?_)
      clear hK K hH2
      (try simp only [List.getElem_toArray, List.getElem_cons_succ, List.getElem_cons_zero, Act.put, List.setIfInBounds_toArray, List.set_cons_succ, List.set_cons_zero])
      refine wpAnyH_done (by kernel_rfl) ?_ _
      exact ⟨rfl, rfl, rfl, rfl, hH.2, V4, V5⟩
    rintro e1 a1 W1 ⟨rfl, h4, h5, hdf, hB1, V4, V5⟩
    go_wp2
    exact ret_rows2 Tryd.results148 (w.heap.size + 1) (w.heap.size + 2) 2 (spAt x y) (spAt u v) 111 _ Tryd.underlying111 rfl size_spot h4 h5 hdf V4 V5 ⟨rfl, hB1⟩
set_option maxRecDepth 100000 in
set_option maxHeartbeats 4000000 in
theorem fallD_any (s : Sh) (f : Nat → Value) (sb b x y u v N bm m : Nat) (ty : TypeId) (w : World) (hN : 266 ≤ N) (hs : w.heap[sb]? = some (.cells (vrow N (mixS s f)) ty)) (h1 : w.heap[b]? = some (.cells (vrow 1 fun _ => .pointer (some ⟨sb, 0, none⟩)) 73)) (h2 : w.heap[bm]? = some (.cells (vrow 1 fun _ => .int .i64 m) 3)) (hm : m < 3) (hx : x < 8) (hy : y < 8) (hu : u < 8) (hv : v < 8) : Calls Tryd.prog 148 #[.agg (vrow 4 (p4 x y u v)), .func (.func 147) #[] #[.pointer (some ⟨b, 0, none⟩), .pointer (some ⟨bm, 0, none⟩)]] w fun e w' => e = .returned (if s.dye (24 * y + 3 * x + m) < s.dye (24 * v + 3 * u + m) then .tuple #[.agg (vrow 2 (spAt u v)), .agg (vrow 2 (spAt x y))] else .tuple #[.agg (vrow 2 (spAt x y)), .agg (vrow 2 (spAt u v))]) ∧ Below w.heap.size w w' := by
  have zs := zero_spot
  have HC := Go.Lib.hid fun (x y : Nat) (w : World) h h2 hx hy => dyeP_any sb b x y bm m w h h2 hm hx hy
  obtain ⟨vA, hA⟩ : ∃ z, s.dye (24 * y + 3 * x + m) = z := ⟨_, rfl⟩
  obtain ⟨vB, hBv⟩ : ∃ z, s.dye (24 * v + 3 * u + m) = z := ⟨_, rfl⟩
  have EA : Hid (mixS s f (66 + y * 24 + x * 3 + m) = .int .i16 vA) := Go.Lib.hid (by rw [← hA]; exact mixS_dye s f _ _ (show 66 + y * 24 + x * 3 + m = 66 + (24 * y + 3 * x + m) by omega) (by omega))
  have EB : Hid (mixS s f (66 + v * 24 + u * 3 + m) = .int .i16 vB) := Go.Lib.hid (by rw [← hBv]; exact mixS_dye s f _ _ (show 66 + v * 24 + u * 3 + m = 66 + (24 * v + 3 * u + m) by omega) (by omega))
  rw [hA, hBv]
  clear hA hBv
  have oA : 66 + y * 24 + x * 3 + m < N := by omega
  have oB : 66 + v * 24 + u * 3 + m < N := by omega
  have R : Hid ((((w.alloc (.cells (vrow 4 (p4 x y u v)) 130)).alloc (.cells (vrow 2 (spAt 0 0)) 111)).alloc (.cells (vrow 2 (spAt 0 0)) 111)).heap[w.heap.size]? = some (.cells (vrow 4 (p4 x y u v)) 130)) := (heap_past _ _ _ _ (by simp <;> omega) (heap_past _ _ _ _ (by simp <;> omega) (heap_at _ _ _ (by simp))))
  have X : Hid ((((w.alloc (.cells (vrow 4 (p4 x y u v)) 130)).alloc (.cells (vrow 2 (spAt 0 0)) 111)).alloc (.cells (vrow 2 (spAt 0 0)) 111)).heap[w.heap.size + 1]? = some (.cells (vrow 2 (spAt 0 0)) 111)) := (heap_past _ _ _ _ (by simp <;> omega) (heap_at _ _ _ (by simp)))
  have Y : Hid ((((w.alloc (.cells (vrow 4 (p4 x y u v)) 130)).alloc (.cells (vrow 2 (spAt 0 0)) 111)).alloc (.cells (vrow 2 (spAt 0 0)) 111)).heap[w.heap.size + 2]? = some (.cells (vrow 2 (spAt 0 0)) 111)) := (heap_at _ _ _ (by simp))
  have hB : Hid (Below w.heap.size w (((w.alloc (.cells (vrow 4 (p4 x y u v)) 130)).alloc (.cells (vrow 2 (spAt 0 0)) 111)).alloc (.cells (vrow 2 (spAt 0 0)) 111))) := Go.Lib.hid ((((Below.refl w.heap.size w).alloc (by simp <;> omega) _).alloc (by simp <;> omega) _).alloc (by simp <;> omega) _)
  have S : Hid ((((w.alloc (.cells (vrow 4 (p4 x y u v)) 130)).alloc (.cells (vrow 2 (spAt 0 0)) 111)).alloc (.cells (vrow 2 (spAt 0 0)) 111)).heap[sb]? = some (.cells (vrow N (mixS s f)) ty)) := heap_past _ _ _ _ (by have := row_lt hs; simp; omega) (heap_past _ _ _ _ (by have := row_lt hs; simp; omega) (heap_past _ _ _ _ (row_lt hs) hs))
  have P : Hid ((((w.alloc (.cells (vrow 4 (p4 x y u v)) 130)).alloc (.cells (vrow 2 (spAt 0 0)) 111)).alloc (.cells (vrow 2 (spAt 0 0)) 111)).heap[b]? = some (.cells (vrow 1 fun _ => .pointer (some ⟨sb, 0, none⟩)) 73)) := heap_past _ _ _ _ (by have := row_lt h1; simp; omega) (heap_past _ _ _ _ (by have := row_lt h1; simp; omega) (heap_past _ _ _ _ (row_lt h1) h1))
  have M : Hid ((((w.alloc (.cells (vrow 4 (p4 x y u v)) 130)).alloc (.cells (vrow 2 (spAt 0 0)) 111)).alloc (.cells (vrow 2 (spAt 0 0)) 111)).heap[bm]? = some (.cells (vrow 1 fun _ => .int .i64 m) 3)) := heap_past _ _ _ _ (by have := row_lt h2; simp; omega) (heap_past _ _ _ _ (by have := row_lt h2; simp; omega) (heap_past _ _ _ _ (row_lt h2) h2))
  clear h2
  clear hs h1
  generalize mixS s f = F at *
  by_cases hlt : vA < vB
  · have hl : decide (vA < vB) = true := by simpa using hlt
    rw [if_pos hlt]
    go_enter Tryd.func148, Tryd.ntmps148
    go_wp2
    refine region_at (by kernel_rfl) (by kernel_rfl) ?_
    intro W hW
    rw [hW] at hB S P R X Y M
    clear hW
    have S' := Go.Lib.hid (cls_row' S.out); have R' := Go.Lib.hid (cls_row' R.out)
    (repeat (first
      | go_big_quiet_skip
      | (refine wpQuiet_loadmid 111 _ rfl (by first | exact want_n rfl | exact want_g _ _ _ rfl rfl rfl) w.heap.size 0 rfl 4 2 (p4 x y u v) _ rw_spot size_spot R'.out (by omega) ?_; rw [p4_s0]; simp only [Act.put, List.setIfInBounds_toArray, List.set_cons_succ, List.set_cons_zero])
      | (refine wpQuiet_loadmid 111 _ rfl (by first | exact want_n rfl | exact want_g _ _ _ rfl rfl rfl) w.heap.size 2 rfl 4 2 (p4 x y u v) _ rw_spot size_spot R'.out (by omega) ?_; rw [p4_s1]; simp only [Act.put, List.setIfInBounds_toArray, List.set_cons_succ, List.set_cons_zero])
      | (refine wpQuiet_load1 23 _ rfl (by first | exact want_n rfl | exact want_g _ _ _ rfl rfl rfl) sb (66 + y * 24 + x * 3 + m) rfl N F _ rw_i16 S'.out oA ?_; rw [EA.out]; simp only [Act.put, List.setIfInBounds_toArray, List.set_cons_succ, List.set_cons_zero])
      | (refine wpQuiet_load1 23 _ rfl (by first | exact want_n rfl | exact want_g _ _ _ rfl rfl rfl) sb (66 + v * 24 + u * 3 + m) rfl N F _ rw_i16 S'.out oB ?_; rw [EB.out]; simp only [Act.put, List.setIfInBounds_toArray, List.set_cons_succ, List.set_cons_zero])
      | go_big_quiet_step ((go_at_call 147; exact cls_call _ (fun w hw => HC.out _ _ w (row_next hw P.out) (row_next hw M.out) (by assumption) (by assumption))))
      | go_big_quiet_step (fail)))
    refine wpQuiet_nil ?_
    intro W2 hb
    replace R := Go.Lib.hid (row_next hb R.out); replace X := Go.Lib.hid (row_next hb X.out); replace Y := Go.Lib.hid (row_next hb Y.out); replace hB := Go.Lib.hid (below_next hB.out hb)
    clear hb S' R' S P M
    go_wp2
    refine Code.wp_mono (Q := fun e a' W' => e = .normal ∧ a'.tmps.getD 4 undef = .pointer (some ⟨w.heap.size + 1, 0, none⟩) ∧ a'.tmps.getD 5 undef = .pointer (some ⟨w.heap.size + 2, 0, none⟩) ∧ a'.defers = [] ∧ Below w.heap.size w W' ∧ W'.heap[w.heap.size + 1]? = some (.cells (vrow 2 (spAt u v)) 111) ∧ W'.heap[w.heap.size + 2]? = some (.cells (vrow 2 (spAt x y)) 111)) ?_ ?_
    rotate_left
    · refine wp_region_held_drew (S := fun X => X.heap[w.heap.size]? = some (.cells (vrow 4 (p4 x y u v)) 130) ∧ Below w.heap.size w X) (by kernel_rfl) ⟨drwP R.out, hB.out.drew⟩ (fun hH => ?_)
      have V4 := drwP X.out; have V5 := drwP Y.out
      clear hB R X Y
      generalize World.drew _ = W at hH V4 V5 ⊢
      refine wpAnyH_take (i := 0) (v := .pointer (some ⟨w.heap.size, 2, none⟩)) rfl (by kernel_rfl) (by kernel_rfl) (by kernel_rfl) (fun _ _ _ h => by cases h.1) (.inl ⟨by kernel_rfl, fun w hw => by go_simp⟩) hH ?_
      (try simp only [List.getElem_toArray, List.getElem_cons_succ, List.getElem_cons_zero, Act.put, List.setIfInBounds_toArray, List.set_cons_succ, List.set_cons_zero])
      refine wpAnyH_take (i := 1) (v := .agg (vrow 2 (spAt u v))) rfl (by kernel_rfl) (by kernel_rfl) (by kernel_rfl) (fun _ _ _ h => by cases h.1) (yields_m (by kernel_rfl) 111 _ rfl w.heap.size 2 rfl 4 2 (p4 x y u v) (vrow 2 (spAt u v)) (by omega) 130 _ Tryd.underlying111 rfl size_spot (p4_s1 _ _ _ _) (fun _ h => h.1)) hH ?_
      (try simp only [List.getElem_toArray, List.getElem_cons_succ, List.getElem_cons_zero, Act.put, List.setIfInBounds_toArray, List.set_cons_succ, List.set_cons_zero])
      refine wpAnyH_take (i := 2) (v := .pointer (some ⟨w.heap.size, 0, none⟩)) rfl (by kernel_rfl) (by kernel_rfl) (by kernel_rfl) (fun _ _ _ h => by cases h.1) (.inl ⟨by kernel_rfl, fun w hw => by go_simp⟩) hH ?_
      (try simp only [List.getElem_toArray, List.getElem_cons_succ, List.getElem_cons_zero, Act.put, List.setIfInBounds_toArray, List.set_cons_succ, List.set_cons_zero])
      refine wpAnyH_take (i := 3) (v := .agg (vrow 2 (spAt x y))) rfl (by kernel_rfl) (by kernel_rfl) (by kernel_rfl) (fun _ _ _ h => by cases h.1) (yields_m (by kernel_rfl) 111 _ rfl w.heap.size 0 rfl 4 2 (p4 x y u v) (vrow 2 (spAt x y)) (by omega) 130 _ Tryd.underlying111 rfl size_spot (p4_s0 _ _ _ _) (fun _ h => h.1)) hH ?_
      (try simp only [List.getElem_toArray, List.getElem_cons_succ, List.getElem_cons_zero, Act.put, List.setIfInBounds_toArray, List.set_cons_succ, List.set_cons_zero])
      refine wpAnyH_ready (rs := [4]) (by kernel_rfl) (by simp) (AllReadyH.cons rfl (fun K hK => ?_) AllReadyH.nil)
      rw [if_pos (by rfl)]
      unfold Oper.wp
      rw [run_storemid 111 (.tmp 4) (.tmp 20) rfl (w.heap.size + 1) 0 rfl 2 2 (spAt 0 0) (spAt u v) rfl 111 size_spot V4 (by omega) (fun i _ => spAt_one _ _ i), vrow_over_all, Oper.upon_skip]
      replace V4 := row_set V4 (vrow 2 (spAt u v)); replace V5 := row_set' (g := w.heap.size + 1) (by omega) V5 (vrow 2 (spAt u v))
      have hH2 : (W.setRow (w.heap.size + 1) (vrow 2 (spAt u v))).heap[w.heap.size]? = some (.cells (vrow 4 (p4 x y u v)) 130) ∧ Below w.heap.size w (W.setRow (w.heap.size + 1) (vrow 2 (spAt u v))) := ⟨row_set' (g := w.heap.size + 1) (by omega) hH.1 (vrow 2 (spAt u v)), Below_setRow hH.2 (show w.heap.size ≤ w.heap.size + 1 by omega) (vrow 2 (spAt u v))⟩
      refine hK.out _ _ hH2 (fun hH => ?_)
      clear hK K hH2
      (try simp only [List.getElem_toArray, List.getElem_cons_succ, List.getElem_cons_zero, Act.put, List.setIfInBounds_toArray, List.set_cons_succ, List.set_cons_zero])
      refine wpAnyH_ready (rs := [5]) (by kernel_rfl) (by simp) (AllReadyH.cons rfl (fun K hK => ?_) AllReadyH.nil)
      rw [if_pos (by rfl)]
      unfold Oper.wp
      rw [run_storemid 111 (.tmp 5) (.tmp 22) rfl (w.heap.size + 2) 0 rfl 2 2 (spAt 0 0) (spAt x y) rfl 111 size_spot V5 (by omega) (fun i _ => spAt_one _ _ i), vrow_over_all, Oper.upon_skip]
      replace V5 := row_set V5 (vrow 2 (spAt x y)); replace V4 := row_set' (g := w.heap.size + 2) (by omega) V4 (vrow 2 (spAt x y))
      have hH2 : ((W.setRow (w.heap.size + 1) (vrow 2 (spAt u v))).setRow (w.heap.size + 2) (vrow 2 (spAt x y))).heap[w.heap.size]? = some (.cells (vrow 4 (p4 x y u v)) 130) ∧ Below w.heap.size w ((W.setRow (w.heap.size + 1) (vrow 2 (spAt u v))).setRow (w.heap.size + 2) (vrow 2 (spAt x y))) := ⟨row_set' (g := w.heap.size + 2) (by omega) hH.1 (vrow 2 (spAt x y)), Below_setRow hH.2 (show w.heap.size ≤ w.heap.size + 2 by omega) (vrow 2 (spAt x y))⟩
      refine hK.out _ _ hH2 (fun hH => ?_)
      clear hK K hH2
      (try simp only [List.getElem_toArray, List.getElem_cons_succ, List.getElem_cons_zero, Act.put, List.setIfInBounds_toArray, List.set_cons_succ, List.set_cons_zero])
      refine wpAnyH_done (by kernel_rfl) ?_ _
      exact ⟨rfl, rfl, rfl, rfl, hH.2, V4, V5⟩
    rintro e1 a1 W1 ⟨rfl, h4, h5, hdf, hB1, V4, V5⟩
    go_wp2
    exact ret_rows2 Tryd.results148 (w.heap.size + 1) (w.heap.size + 2) 2 (spAt u v) (spAt x y) 111 _ Tryd.underlying111 rfl size_spot h4 h5 hdf V4 V5 ⟨rfl, hB1⟩
  · have hl : decide (vA < vB) = false := by simpa using hlt
    rw [if_neg hlt]
    go_enter Tryd.func148, Tryd.ntmps148
    go_wp2
    refine region_at (by kernel_rfl) (by kernel_rfl) ?_
    intro W hW
    rw [hW] at hB S P R X Y M
    clear hW
    have S' := Go.Lib.hid (cls_row' S.out); have R' := Go.Lib.hid (cls_row' R.out)
    (repeat (first
      | go_big_quiet_skip
      | (refine wpQuiet_loadmid 111 _ rfl (by first | exact want_n rfl | exact want_g _ _ _ rfl rfl rfl) w.heap.size 0 rfl 4 2 (p4 x y u v) _ rw_spot size_spot R'.out (by omega) ?_; rw [p4_s0]; simp only [Act.put, List.setIfInBounds_toArray, List.set_cons_succ, List.set_cons_zero])
      | (refine wpQuiet_loadmid 111 _ rfl (by first | exact want_n rfl | exact want_g _ _ _ rfl rfl rfl) w.heap.size 2 rfl 4 2 (p4 x y u v) _ rw_spot size_spot R'.out (by omega) ?_; rw [p4_s1]; simp only [Act.put, List.setIfInBounds_toArray, List.set_cons_succ, List.set_cons_zero])
      | (refine wpQuiet_load1 23 _ rfl (by first | exact want_n rfl | exact want_g _ _ _ rfl rfl rfl) sb (66 + y * 24 + x * 3 + m) rfl N F _ rw_i16 S'.out oA ?_; rw [EA.out]; simp only [Act.put, List.setIfInBounds_toArray, List.set_cons_succ, List.set_cons_zero])
      | (refine wpQuiet_load1 23 _ rfl (by first | exact want_n rfl | exact want_g _ _ _ rfl rfl rfl) sb (66 + v * 24 + u * 3 + m) rfl N F _ rw_i16 S'.out oB ?_; rw [EB.out]; simp only [Act.put, List.setIfInBounds_toArray, List.set_cons_succ, List.set_cons_zero])
      | go_big_quiet_step ((go_at_call 147; exact cls_call _ (fun w hw => HC.out _ _ w (row_next hw P.out) (row_next hw M.out) (by assumption) (by assumption))))
      | go_big_quiet_step (fail)))
    refine wpQuiet_nil ?_
    intro W2 hb
    replace R := Go.Lib.hid (row_next hb R.out); replace X := Go.Lib.hid (row_next hb X.out); replace Y := Go.Lib.hid (row_next hb Y.out); replace hB := Go.Lib.hid (below_next hB.out hb)
    clear hb S' R' S P M
    go_wp2
    refine Code.wp_mono (Q := fun e a' W' => e = .normal ∧ a'.tmps.getD 4 undef = .pointer (some ⟨w.heap.size + 1, 0, none⟩) ∧ a'.tmps.getD 5 undef = .pointer (some ⟨w.heap.size + 2, 0, none⟩) ∧ a'.defers = [] ∧ Below w.heap.size w W' ∧ W'.heap[w.heap.size + 1]? = some (.cells (vrow 2 (spAt x y)) 111) ∧ W'.heap[w.heap.size + 2]? = some (.cells (vrow 2 (spAt u v)) 111)) ?_ ?_
    rotate_left
    · refine wp_region_held_drew (S := fun X => X.heap[w.heap.size]? = some (.cells (vrow 4 (p4 x y u v)) 130) ∧ Below w.heap.size w X) (by kernel_rfl) ⟨drwP R.out, hB.out.drew⟩ (fun hH => ?_)
      have V4 := drwP X.out; have V5 := drwP Y.out
      clear hB R X Y
      generalize World.drew _ = W at hH V4 V5 ⊢
      refine wpAnyH_take (i := 0) (v := .pointer (some ⟨w.heap.size, 0, none⟩)) rfl (by kernel_rfl) (by kernel_rfl) (by kernel_rfl) (fun _ _ _ h => by cases h.1) (.inl ⟨by kernel_rfl, fun w hw => by go_simp⟩) hH ?_
      (try simp only [List.getElem_toArray, List.getElem_cons_succ, List.getElem_cons_zero, Act.put, List.setIfInBounds_toArray, List.set_cons_succ, List.set_cons_zero])
      refine wpAnyH_take (i := 1) (v := .agg (vrow 2 (spAt x y))) rfl (by kernel_rfl) (by kernel_rfl) (by kernel_rfl) (fun _ _ _ h => by cases h.1) (yields_m (by kernel_rfl) 111 _ rfl w.heap.size 0 rfl 4 2 (p4 x y u v) (vrow 2 (spAt x y)) (by omega) 130 _ Tryd.underlying111 rfl size_spot (p4_s0 _ _ _ _) (fun _ h => h.1)) hH ?_
      (try simp only [List.getElem_toArray, List.getElem_cons_succ, List.getElem_cons_zero, Act.put, List.setIfInBounds_toArray, List.set_cons_succ, List.set_cons_zero])
      refine wpAnyH_take (i := 2) (v := .pointer (some ⟨w.heap.size, 2, none⟩)) rfl (by kernel_rfl) (by kernel_rfl) (by kernel_rfl) (fun _ _ _ h => by cases h.1) (.inl ⟨by kernel_rfl, fun w hw => by go_simp⟩) hH ?_
      (try simp only [List.getElem_toArray, List.getElem_cons_succ, List.getElem_cons_zero, Act.put, List.setIfInBounds_toArray, List.set_cons_succ, List.set_cons_zero])
      refine wpAnyH_take (i := 3) (v := .agg (vrow 2 (spAt u v))) rfl (by kernel_rfl) (by kernel_rfl) (by kernel_rfl) (fun _ _ _ h => by cases h.1) (yields_m (by kernel_rfl) 111 _ rfl w.heap.size 2 rfl 4 2 (p4 x y u v) (vrow 2 (spAt u v)) (by omega) 130 _ Tryd.underlying111 rfl size_spot (p4_s1 _ _ _ _) (fun _ h => h.1)) hH ?_
      (try simp only [List.getElem_toArray, List.getElem_cons_succ, List.getElem_cons_zero, Act.put, List.setIfInBounds_toArray, List.set_cons_succ, List.set_cons_zero])
      refine wpAnyH_ready (rs := [4]) (by kernel_rfl) (by simp) (AllReadyH.cons rfl (fun K hK => ?_) AllReadyH.nil)
      rw [if_pos (by rfl)]
      unfold Oper.wp
      rw [run_storemid 111 (.tmp 4) (.tmp 24) rfl (w.heap.size + 1) 0 rfl 2 2 (spAt 0 0) (spAt x y) rfl 111 size_spot V4 (by omega) (fun i _ => spAt_one _ _ i), vrow_over_all, Oper.upon_skip]
      replace V4 := row_set V4 (vrow 2 (spAt x y)); replace V5 := row_set' (g := w.heap.size + 1) (by omega) V5 (vrow 2 (spAt x y))
      have hH2 : (W.setRow (w.heap.size + 1) (vrow 2 (spAt x y))).heap[w.heap.size]? = some (.cells (vrow 4 (p4 x y u v)) 130) ∧ Below w.heap.size w (W.setRow (w.heap.size + 1) (vrow 2 (spAt x y))) := ⟨row_set' (g := w.heap.size + 1) (by omega) hH.1 (vrow 2 (spAt x y)), Below_setRow hH.2 (show w.heap.size ≤ w.heap.size + 1 by omega) (vrow 2 (spAt x y))⟩
      refine hK.out _ _ hH2 (fun hH => ?_)
      clear hK K hH2
      (try simp only [List.getElem_toArray, List.getElem_cons_succ, List.getElem_cons_zero, Act.put, List.setIfInBounds_toArray, List.set_cons_succ, List.set_cons_zero])
      refine wpAnyH_ready (rs := [5]) (by kernel_rfl) (by simp) (AllReadyH.cons rfl (fun K hK => ?_) AllReadyH.nil)
      rw [if_pos (by rfl)]
      unfold Oper.wp
      rw [run_storemid 111 (.tmp 5) (.tmp 26) rfl (w.heap.size + 2) 0 rfl 2 2 (spAt 0 0) (spAt u v) rfl 111 size_spot V5 (by omega) (fun i _ => spAt_one _ _ i), vrow_over_all, Oper.upon_skip]
      replace V5 := row_set V5 (vrow 2 (spAt u v)); replace V4 := row_set' (g := w.heap.size + 2) (by omega) V4 (vrow 2 (spAt u v))
      have hH2 : ((W.setRow (w.heap.size + 1) (vrow 2 (spAt x y))).setRow (w.heap.size + 2) (vrow 2 (spAt u v))).heap[w.heap.size]? = some (.cells (vrow 4 (p4 x y u v)) 130) ∧ Below w.heap.size w ((W.setRow (w.heap.size + 1) (vrow 2 (spAt x y))).setRow (w.heap.size + 2) (vrow 2 (spAt u v))) := ⟨row_set' (g := w.heap.size + 2) (by omega) hH.1 (vrow 2 (spAt u v)), Below_setRow hH.2 (show w.heap.size ≤ w.heap.size + 2 by omega) (vrow 2 (spAt u v))⟩
      refine hK.out _ _ hH2 (fun hH => ?_)
      clear hK K hH2
      (try simp only [List.getElem_toArray, List.getElem_cons_succ, List.getElem_cons_zero, Act.put, List.setIfInBounds_toArray, List.set_cons_succ, List.set_cons_zero])
      refine wpAnyH_done (by kernel_rfl) ?_ _
      exact ⟨rfl, rfl, rfl, rfl, hH.2, V4, V5⟩
    rintro e1 a1 W1 ⟨rfl, h4, h5, hdf, hB1, V4, V5⟩
    go_wp2
    exact ret_rows2 Tryd.results148 (w.heap.size + 1) (w.heap.size + 2) 2 (spAt x y) (spAt u v) 111 _ Tryd.underlying111 rfl size_spot h4 h5 hdf V4 V5 ⟨rfl, hB1⟩
end Go.Proofs.YtmcpaangofdmpaaDoor
namespace Go.Proofs.YtmcpaangofdmpaaDoor
open Go.RowKit
set_option maxRecDepth 100000
set_option linter.unusedVariables false
set_option linter.unusedSimpArgs false
theorem box_a (W : World) (C D : Obj) : ((W.alloc C).alloc D).heap[W.heap.size]? = some C := heap_past _ _ _ _ (by simp) (heap_at _ _ _ rfl)
theorem box_b (W : World) (C D : Obj) : ((W.alloc C).alloc D).heap[W.heap.size + 1]? = some D := heap_at _ _ _ (by simp)
theorem box_o (W : World) (C D : Obj) {g : Nat} {X : Obj} (h : W.heap[g]? = some X) : ((W.alloc C).alloc D).heap[g]? = some X := heap_past _ _ _ _ (row_lt (heap_past _ _ _ _ (row_lt h) h)) (heap_past _ _ _ _ (row_lt h) h)
theorem grown_new' {W W1 : World} {row : Option Nat} {g : Nat} (h : W.grownBy W1 row) (hg : W.heap.size ≤ g) (cs : Array Value) : W.grownBy (W1.setRow g cs) row :=
  ⟨h.os, h.tape, h.output, by simpa using h.size, fun k hk hne => (setRow_other W1 g k cs (by omega)).trans (h.block k hk hne)⟩
theorem size_intP : (Tryd.prog.info? 3).map (·.size) = some 1 := by kernel_rfl
set_option maxRecDepth 100000 in
set_option maxHeartbeats 16000000 in
theorem ppair_any (s : Sh) (f : Nat → Value) (sb N i j i2 j2 : Nat) (ty : TypeId) (pr : Int) (w : World) (hN : 266 ≤ N) (hs : w.heap[sb]? = some (.cells (vrow N (mixS s f)) ty)) (hb0 : bdP s) (hp : 0 ≤ pr ∧ pr ≤ 16) (hi : i < 8) (hj : j < 8) (hi2 : i2 < 8) (hj2 : j2 < 8) (hne : 8 * j + i ≠ 8 * j2 + i2) : Calls Tryd.prog 133 #[.pointer (some ⟨sb, 0, none⟩), .agg (vrow 4 (p4 i j i2 j2)), .int .i8 pr] w fun e w' => e = .returned (.int .i64 (prC pr s (24 * j + 3 * i) (24 * j2 + 3 * i2) (8 * j + i) (8 * j2 + i2) 3).2) ∧ w.grownBy w' (some sb) ∧ w'.heap[sb]? = some (.cells (vrow N (mixS (prW pr (prC pr s (24 * j + 3 * i) (24 * j2 + 3 * i2) (8 * j + i) (8 * j2 + i2) 3).1 (8 * j + i) (8 * j2 + i2)) f)) ty) := by
  have zs := zero_spot
  have hmf : ∀ (fn : Fn) (first cap : Array Value) (w : World), (Instr.makeFunc fn first cap).run Tryd.prog w = .ok (.func fn first cap) w := fun _ _ _ _ => rfl
  have hbd := fun m (h1 : 24 * j + 3 * i + m ≤ 192) (h2 : 24 * j2 + 3 * i2 + m ≤ 192) => prC_bd (pr := pr) (a := 8 * j + i) (b := 8 * j2 + i2) hb0 hp m h1 h2
  have SB : Hid (((w.alloc (.cells (vrow 1 fun _ => .pointer (some ⟨sb, 0, none⟩)) 73)).alloc (.cells (vrow 4 (p4 i j i2 j2)) 130)).heap[w.heap.size]? = some (.cells (vrow 1 fun _ => .pointer (some ⟨sb, 0, none⟩)) 73)) := (heap_past _ _ _ _ (by simp <;> omega) (heap_at _ _ _ (by simp)))
  have PR : Hid (((w.alloc (.cells (vrow 1 fun _ => .pointer (some ⟨sb, 0, none⟩)) 73)).alloc (.cells (vrow 4 (p4 i j i2 j2)) 130)).heap[w.heap.size + 1]? = some (.cells (vrow 4 (p4 i j i2 j2)) 130)) := (heap_at _ _ _ (by simp))
  have hB : Hid (Below w.heap.size w ((w.alloc (.cells (vrow 1 fun _ => .pointer (some ⟨sb, 0, none⟩)) 73)).alloc (.cells (vrow 4 (p4 i j i2 j2)) 130))) := Go.Lib.hid (((Below.refl w.heap.size w).alloc (by simp <;> omega) _).alloc (by simp <;> omega) _)
  have hsb := row_lt hs
  have S : Hid (((w.alloc (.cells (vrow 1 fun _ => .pointer (some ⟨sb, 0, none⟩)) 73)).alloc (.cells (vrow 4 (p4 i j i2 j2)) 130)).heap[sb]? = some (.cells (vrow N (mixS s f)) ty)) := heap_past _ _ _ _ (by simp; omega) (heap_past _ _ _ _ hsb hs)
  have GB : Hid (w.grownBy ((w.alloc (.cells (vrow 1 fun _ => .pointer (some ⟨sb, 0, none⟩)) 73)).alloc (.cells (vrow 4 (p4 i j i2 j2)) 130)) (some sb)) := Go.Lib.hid (grown_alloc (grown_alloc (grown_refl w _) _) _)
  clear hs hB
  go_enter Tryd.func133, Tryd.ntmps133
  go_wp2
  have S0 := S.out; have SB0 := SB.out; have PR0 := PR.out; have G0 := GB.out
  clear S SB PR GB
  go_loopw [8, 16] (fun mv iv wr => ∃ m : Nat, m ≤ 3 ∧ iv = .int .i64 m ∧ mv = .int .i64 (prC pr s (24 * j + 3 * i) (24 * j2 + 3 * i2) (8 * j + i) (8 * j2 + i2) m).2 ∧ wr.heap[sb]? = some (.cells (vrow N (mixS (prC pr s (24 * j + 3 * i) (24 * j2 + 3 * i2) (8 * j + i) (8 * j2 + i2) m).1 f)) ty) ∧ wr.heap[w.heap.size]? = some (.cells (vrow 1 fun _ => .pointer (some ⟨sb, 0, none⟩)) 73) ∧ wr.heap[w.heap.size + 1]? = some (.cells (vrow 4 (p4 i j i2 j2)) 130) ∧ w.grownBy wr (some sb)) (fun _ iv _ => 3 - (intOf iv).toNat)
  case atStart => exact ⟨0, by omega, rfl, rfl, S0, SB0, PR0, G0⟩
  case round =>
    clear S0 SB0 PR0 G0
    obtain ⟨m, hm, rfl, rfl, S, SB, PR, GB⟩ := hrel
    have hg0 := row_lt PR
    by_cases hlm : m < 3
    · have bT := (hbd m (by omega) (by omega))
      have hst := Go.Lib.hid (show prC pr s (24 * j + 3 * i) (24 * j2 + 3 * i2) (8 * j + i) (8 * j2 + i2) (m + 1) = ((prI pr (prC pr s (24 * j + 3 * i) (24 * j2 + 3 * i2) (8 * j + i) (8 * j2 + i2) m).1 (24 * j + 3 * i + m) (24 * j2 + 3 * i2 + m) (8 * j + i) (8 * j2 + i2)).1, (prC pr s (24 * j + 3 * i) (24 * j2 + 3 * i2) (8 * j + i) (8 * j2 + i2) m).2 + (prI pr (prC pr s (24 * j + 3 * i) (24 * j2 + 3 * i2) (8 * j + i) (8 * j2 + i2) m).1 (24 * j + 3 * i + m) (24 * j2 + 3 * i2 + m) (8 * j + i) (8 * j2 + i2)).2) from rfl)
      generalize prC pr s (24 * j + 3 * i) (24 * j2 + 3 * i2) (8 * j + i) (8 * j2 + i2) m = U at *
      obtain ⟨T, mv⟩ := U
      dsimp only at *
      have bA := bT.1.1 (24 * j + 3 * i + m) (by omega); have bB := bT.1.1 (24 * j2 + 3 * i2 + m) (by omega); have ba := bT.1.2 (8 * j + i) (by omega); have bb := bT.1.2 (8 * j2 + i2) (by omega)
      have hmv := bT.2
      clear bT hbd
      have hneD : 24 * j + 3 * i + m ≠ 24 * j2 + 3 * i2 + m := by omega
      have hmI : (m : Int) < 3 := by omega
      have hm0 : (0 : Int) ≤ (m : Int) := by omega
      have hmd : decide ((m : Int) < 3) = true := by simpa using hmI
      have HF := Go.Lib.hid fun W h1 h2 (xb : Nat) h3 => fallD_any T f sb w.heap.size i j i2 j2 N xb m ty W hN h1 h2 h3 hlm hi hj hi2 hj2
      have HC1 := Go.Lib.hid fun (x y : Nat) W h hx hy => wetP_any sb w.heap.size x y W h hx hy
      have HC2 := Go.Lib.hid fun (x y bm : Nat) W h h2 hx hy => dyeP_any sb w.heap.size x y bm m W h h2 hlm hx hy
      have EA : Hid (mixS T f (2 + j * 8 + i) = .int .i16 (T.wet (8 * j + i))) := Go.Lib.hid (mixS_wet T f _ _ (by omega) (by omega)); have EB : Hid (mixS T f (2 + j2 * 8 + i2) = .int .i16 (T.wet (8 * j2 + i2))) := Go.Lib.hid (mixS_wet T f _ _ (by omega) (by omega))
      replace S := Go.Lib.hid S; replace SB := Go.Lib.hid SB; replace PR := Go.Lib.hid PR; replace GB := Go.Lib.hid GB
      by_cases hlt : T.dye (24 * j + 3 * i + m) < T.dye (24 * j2 + 3 * i2 + m)
      · simp only [if_pos hlt] at HF
        by_cases hpos : 0 < T.wet (8 * j2 + i2)
        · skip
          have HL0 := fun W h => level_any sb (66 + j2 * 24 + i2 * 3 + m) (66 + j * 24 + i * 3 + m) N ty (mixS T f) (T.dye (24 * j2 + 3 * i2 + m)) (T.dye (24 * j + 3 * i + m)) pr W h (mixS_dye T f _ _ (by omega) (by omega)) (mixS_dye T f _ _ (by omega) (by omega)) (by omega) (by omega) (by omega) (by omega) (by omega) (by omega) hp
          rw [mixS_ed T f (66 + j2 * 24 + i2 * 3 + m) (24 * j2 + 3 * i2 + m) (by omega) (by omega), mixS_ed _ f (66 + j * 24 + i * 3 + m) (24 * j + 3 * i + m) (by omega) (by omega)] at HL0
          have hI := Go.Lib.hid (prI_lt (a := 8 * j + i) hp hneD hlt hpos)
          have hnb := part_bd (d := T.dye (24 * j2 + 3 * i2 + m) - T.dye (24 * j + 3 * i + m)) (by omega) hp
          generalize ((T.dye (24 * j2 + 3 * i2 + m) - T.dye (24 * j + 3 * i + m)) * pr).tdiv 16 = n at *
          have hwm : IntKind.i64.wrap (mv + n) = mv + n := IntWalk.i64_in _ (by omega)
          have HL := Go.Lib.hid HL0
          clear HL0
          have hpd : decide (0 < T.wet (8 * j2 + i2)) = true := by simpa using hpos
          go_wp2_with (first
            | go_skip
            | ((with_reducible refine wlOp (.store 3 (.tmp 9) (.tmp 18)) rfl ?_); refine wpList_store1 rfl 3 (.tmp 9) (.tmp 18) rfl wr.heap.size 0 rfl 1 (fun _ => .int .i64 0) (.int .i64 (m : Int)) rfl 3 size_intP (heap_at _ _ _ rfl) (by omega) rfl ?_; rw [vrow_over_all, setRow_at _ _ _ _ _ rfl]; have M := Go.Lib.hid (heap_at wr (.cells (vrow 1 fun _ => .int .i64 m) 3) _ rfl); replace S := Go.Lib.hid (heap_past wr (.cells (vrow 1 fun _ => .int .i64 m) 3) _ _ (row_lt S.out) S.out); replace SB := Go.Lib.hid (heap_past wr (.cells (vrow 1 fun _ => .int .i64 m) 3) _ _ (row_lt SB.out) SB.out); replace PR := Go.Lib.hid (heap_past wr (.cells (vrow 1 fun _ => .int .i64 m) 3) _ _ (row_lt PR.out) PR.out); replace GB := Go.Lib.hid (grown_alloc GB.out (.cells (vrow 1 fun _ => .int .i64 m) 3)); obtain ⟨mb, hmb⟩ : ∃ z, wr.heap.size = z := ⟨_, rfl⟩; rw [hmb] at M hg0 ⊢; obtain ⟨V1, hV1⟩ : ∃ z, wr.alloc (.cells (vrow 1 fun _ => .int .i64 m) 3) = z := ⟨_, rfl⟩; rw [hV1] at S SB PR M GB ⊢; clear hV1 hmb)
            | ((with_reducible refine wlAt 21 rfl ?_); refine wpList_loadall rfl 130 (.tmp 4) rfl (w.heap.size + 1) rfl 4 (p4 i j i2 j2) 130 _ Tryd.underlying130 rfl size_prtP PR.out ?_)
            | (go_at_call 148; (refine (HF.out _ S.out SB.out mb M.out).mono ?_); rintro o w1 ⟨rfl, hb⟩; replace S := Go.Lib.hid (row_next hb S.out); replace SB := Go.Lib.hid (row_next hb SB.out); replace PR := Go.Lib.hid (row_next hb PR.out); replace M := Go.Lib.hid (row_next hb M.out); replace GB := Go.Lib.hid (grown_next GB.out hb); clear hb)
            | ((with_reducible refine wlOp (.store 111 (.tmp 11) (.tmp 24)) rfl ?_); have X := Go.Lib.hid (box_a w1 (.cells (vrow 2 (spAt 0 0)) 111) (.cells (vrow 2 (spAt 0 0)) 111)); have Y := Go.Lib.hid (box_b w1 (.cells (vrow 2 (spAt 0 0)) 111) (.cells (vrow 2 (spAt 0 0)) 111)); have hxl : mb + 1 ≤ w1.heap.size := (by have := row_lt M.out; omega); replace S := Go.Lib.hid (box_o w1 (.cells (vrow 2 (spAt 0 0)) 111) (.cells (vrow 2 (spAt 0 0)) 111) S.out); replace SB := Go.Lib.hid (box_o w1 (.cells (vrow 2 (spAt 0 0)) 111) (.cells (vrow 2 (spAt 0 0)) 111) SB.out); replace PR := Go.Lib.hid (box_o w1 (.cells (vrow 2 (spAt 0 0)) 111) (.cells (vrow 2 (spAt 0 0)) 111) PR.out); replace M := Go.Lib.hid (box_o w1 (.cells (vrow 2 (spAt 0 0)) 111) (.cells (vrow 2 (spAt 0 0)) 111) M.out); replace GB := Go.Lib.hid (grown_alloc (grown_alloc GB.out (.cells (vrow 2 (spAt 0 0)) 111)) (.cells (vrow 2 (spAt 0 0)) 111)); obtain ⟨xb, hxb⟩ : ∃ z, w1.heap.size = z := ⟨_, rfl⟩; rw [hxb] at X Y hxl ⊢; obtain ⟨V2, hV2⟩ : ∃ z, (w1.alloc (.cells (vrow 2 (spAt 0 0)) 111)).alloc (.cells (vrow 2 (spAt 0 0)) 111) = z := ⟨_, rfl⟩; rw [hV2] at X Y S SB PR M GB ⊢; clear hV2 hxb; refine wpList_storeall rfl 111 (.tmp 11) (.tmp 24) rfl xb rfl 2 (spAt 0 0) (spAt i2 j2) rfl 111 size_spot X.out (fun i _ => spAt_one _ _ i) ?_; replace X := Go.Lib.hid (row_set X.out (vrow 2 (spAt i2 j2))); replace Y := Go.Lib.hid (row_set' (g := xb) (by omega) Y.out (vrow 2 (spAt i2 j2))); replace S := Go.Lib.hid (row_set' (g := xb) (by omega) S.out (vrow 2 (spAt i2 j2))); replace SB := Go.Lib.hid (row_set' (g := xb) (by omega) SB.out (vrow 2 (spAt i2 j2))); replace PR := Go.Lib.hid (row_set' (g := xb) (by omega) PR.out (vrow 2 (spAt i2 j2))); replace M := Go.Lib.hid (row_set' (g := xb) (by omega) M.out (vrow 2 (spAt i2 j2))); replace GB := Go.Lib.hid (grown_new' GB.out (show w.heap.size ≤ xb by omega) (vrow 2 (spAt i2 j2))))
            | ((with_reducible refine wlOp (.store 111 (.tmp 12) (.tmp 25)) rfl ?_); refine wpList_storeall rfl 111 (.tmp 12) (.tmp 25) rfl (xb + 1) rfl 2 (spAt 0 0) (spAt i j) rfl 111 size_spot Y.out (fun i _ => spAt_one _ _ i) ?_; replace Y := Go.Lib.hid (row_set Y.out (vrow 2 (spAt i j))); replace X := Go.Lib.hid (row_set' (g := xb + 1) (by omega) X.out (vrow 2 (spAt i j))); replace S := Go.Lib.hid (row_set' (g := xb + 1) (by omega) S.out (vrow 2 (spAt i j))); replace SB := Go.Lib.hid (row_set' (g := xb + 1) (by omega) SB.out (vrow 2 (spAt i j))); replace PR := Go.Lib.hid (row_set' (g := xb + 1) (by omega) PR.out (vrow 2 (spAt i j))); replace M := Go.Lib.hid (row_set' (g := xb + 1) (by omega) M.out (vrow 2 (spAt i j))); replace GB := Go.Lib.hid (grown_new' GB.out (show w.heap.size ≤ xb + 1 by omega) (vrow 2 (spAt i j))))
            | ((with_reducible refine wlAt 27 rfl ?_); refine wpList_loadall rfl 111 (.tmp 11) rfl xb rfl 2 (spAt i2 j2) 111 _ Tryd.underlying111 rfl size_spot X.out ?_)
            | (go_at_call 146; (refine (HC1.out _ _ _ SB.out (by assumption) (by assumption)).mono ?_); rintro o w2 ⟨rfl, hb⟩; replace S := Go.Lib.hid (row_next hb S.out); replace SB := Go.Lib.hid (row_next hb SB.out); replace PR := Go.Lib.hid (row_next hb PR.out); replace M := Go.Lib.hid (row_next hb M.out); replace X := Go.Lib.hid (row_next hb X.out); replace Y := Go.Lib.hid (row_next hb Y.out); replace GB := Go.Lib.hid (grown_next GB.out hb); clear hb)
            | ((with_reducible refine wlAt 30 rfl ?_); refine wpList_ld1 23 _ rfl (by first | exact want_n rfl | exact want_g _ _ _ rfl rfl rfl) sb (2 + j2 * 8 + i2) rfl N (mixS T f) _ rw_i16 S.out (by omega) ?_; rw [EB.out])
            | fail)
          have hs0 := row_lt S.out
          refine Code.wp_mono (Q := fun e a' W' => e = .normal ∧ a' = { tmps := #[(.pointer (some ⟨sb, 0, none⟩) : Value), (.agg (vrow 4 (p4 i j i2 j2)) : Value), (.int .i8 pr : Value), (.pointer (some ⟨w.heap.size, 0, none⟩) : Value), (.pointer (some ⟨w.heap.size + 1, 0, none⟩) : Value), undef, (.int .i64 0 : Value), (.func (.func 146) #[] #[.pointer (some ⟨w.heap.size, 0, none⟩)] : Value), (.int .i64 (mv + n) : Value), (.pointer (some ⟨mb, 0, none⟩) : Value), (.func (.func 147) #[] #[.pointer (some ⟨w.heap.size, 0, none⟩), .pointer (some ⟨mb, 0, none⟩)] : Value), (.pointer (some ⟨xb, 0, none⟩) : Value), (.pointer (some ⟨xb + 1, 0, none⟩) : Value), undef, undef, (.func (.func 146) #[] #[.pointer (some ⟨w.heap.size, 0, none⟩)] : Value), (.int .i64 m : Value), (.bool true : Value), (.int .i64 m : Value), (.func (.func 147) #[] #[.pointer (some ⟨w.heap.size, 0, none⟩), .pointer (some ⟨mb, 0, none⟩)] : Value), (.tuple #[.agg (vrow 2 (spAt i2 j2)), .agg (vrow 2 (spAt i j))] : Value), (.agg (vrow 4 (p4 i j i2 j2)) : Value), (.func (.func 147) #[] #[.pointer (some ⟨w.heap.size, 0, none⟩), .pointer (some ⟨mb, 0, none⟩)] : Value), (.tuple #[.agg (vrow 2 (spAt i2 j2)), .agg (vrow 2 (spAt i j))] : Value), (.agg (vrow 2 (spAt i2 j2)) : Value), (.agg (vrow 2 (spAt i j)) : Value), (.func (.func 146) #[] #[.pointer (some ⟨w.heap.size, 0, none⟩)] : Value), (.agg (vrow 2 (spAt i2 j2)) : Value), (.pointer (some ⟨sb, 2 + j2 * 8 + i2, none⟩) : Value), (.pointer (some ⟨sb, 2 + j2 * 8 + i2, none⟩) : Value), (.int .i16 (T.wet (8 * j2 + i2)) : Value), (.bool true : Value), (.int .i64 mv : Value), (.func (.func 147) #[] #[.pointer (some ⟨w.heap.size, 0, none⟩), .pointer (some ⟨mb, 0, none⟩)] : Value), (.agg (vrow 2 (spAt i2 j2)) : Value), (.pointer (some ⟨sb, 66 + j2 * 24 + i2 * 3 + m, none⟩) : Value), (.func (.func 147) #[] #[.pointer (some ⟨w.heap.size, 0, none⟩), .pointer (some ⟨mb, 0, none⟩)] : Value), (.agg (vrow 2 (spAt i j)) : Value), (.pointer (some ⟨sb, 66 + j * 24 + i * 3 + m, none⟩) : Value), (.int .i8 pr : Value), (.int .i64 n : Value), (.int .i64 (mv + n) : Value), u42, undef, undef, undef, undef, undef, undef, undef, undef, undef, undef, undef, undef, undef, undef, undef], defers := [] } ∧ W'.heap[w.heap.size]? = some (.cells (vrow 1 fun _ => .pointer (some ⟨sb, 0, none⟩)) 73) ∧ W'.heap[mb]? = some (.cells (vrow 1 fun _ => .int .i64 m) 3) ∧ W'.heap[xb]? = some (.cells (vrow 2 (spAt i2 j2)) 111) ∧ W'.heap[xb + 1]? = some (.cells (vrow 2 (spAt i j)) 111) ∧ W'.heap[w.heap.size + 1]? = some (.cells (vrow 4 (p4 i j i2 j2)) 130) ∧ w.grownBy W' (some sb) ∧ W'.heap[sb]? = some (.cells (vrow N (mixS ((T.ed (24 * j2 + 3 * i2 + m) (T.dye (24 * j2 + 3 * i2 + m) - n)).ed (24 * j + 3 * i + m) (T.dye (24 * j + 3 * i + m) + n)) f)) ty)) ?_ ?_
          rotate_left
          · refine wp_region_held_drew (S := fun X => X.heap[w.heap.size]? = some (.cells (vrow 1 fun _ => .pointer (some ⟨sb, 0, none⟩)) 73) ∧ X.heap[mb]? = some (.cells (vrow 1 fun _ => .int .i64 m) 3) ∧ X.heap[xb]? = some (.cells (vrow 2 (spAt i2 j2)) 111) ∧ X.heap[xb + 1]? = some (.cells (vrow 2 (spAt i j)) 111) ∧ X.heap[w.heap.size + 1]? = some (.cells (vrow 4 (p4 i j i2 j2)) 130) ∧ w.grownBy X (some sb)) (by kernel_rfl) ⟨drwP SB.out, drwP M.out, drwP X.out, drwP Y.out, drwP PR.out, grown_drew GB.out⟩ (fun hH => ?_)
            have V := drwP S.out
            clear S SB PR GB M X Y
            generalize World.drew _ = W at hH V ⊢
            refine wpAnyH_take (i := 0) (v := (.int .i64 mv)) rfl (by kernel_rfl) (by kernel_rfl) (by kernel_rfl) (fun _ _ _ h => by cases h.1) (.inl ⟨by kernel_rfl, fun w hw => by go_simp⟩) hH ?_
            (try simp only [List.getElem_toArray, List.getElem_cons_succ, List.getElem_cons_zero, Act.put, List.setIfInBounds_toArray, List.set_cons_succ, List.set_cons_zero])
            refine wpAnyH_take (i := 1) (v := (.func (.func 147) #[] #[.pointer (some ⟨w.heap.size, 0, none⟩), .pointer (some ⟨mb, 0, none⟩)])) rfl (by kernel_rfl) (by kernel_rfl) (by kernel_rfl) (fun _ _ _ h => by cases h.1) (.inl ⟨by kernel_rfl, fun w hw => by go_simp⟩) hH ?_
            (try simp only [List.getElem_toArray, List.getElem_cons_succ, List.getElem_cons_zero, Act.put, List.setIfInBounds_toArray, List.set_cons_succ, List.set_cons_zero])
            refine wpAnyH_take (i := 2) (v := (.agg (vrow 2 (spAt i2 j2)))) rfl (by kernel_rfl) (by kernel_rfl) (by kernel_rfl) (fun _ _ _ h => by cases h.1) (yields_row (by kernel_rfl) 111 _ rfl (xb) rfl 2 (spAt i2 j2) 111 _ Tryd.underlying111 rfl size_spot (fun _ h => h.2.2.1)) hH ?_
            (try simp only [List.getElem_toArray, List.getElem_cons_succ, List.getElem_cons_zero, Act.put, List.setIfInBounds_toArray, List.set_cons_succ, List.set_cons_zero])
            refine wpAnyH_take (i := 4) (v := (.func (.func 147) #[] #[.pointer (some ⟨w.heap.size, 0, none⟩), .pointer (some ⟨mb, 0, none⟩)])) rfl (by kernel_rfl) (by kernel_rfl) (by kernel_rfl) (fun _ _ _ h => by cases h.1) (.inl ⟨by kernel_rfl, fun w hw => by go_simp⟩) hH ?_
            (try simp only [List.getElem_toArray, List.getElem_cons_succ, List.getElem_cons_zero, Act.put, List.setIfInBounds_toArray, List.set_cons_succ, List.set_cons_zero])
            refine wpAnyH_take (i := 5) (v := (.agg (vrow 2 (spAt i j)))) rfl (by kernel_rfl) (by kernel_rfl) (by kernel_rfl) (fun _ _ _ h => by cases h.1) (yields_row (by kernel_rfl) 111 _ rfl (xb + 1) rfl 2 (spAt i j) 111 _ Tryd.underlying111 rfl size_spot (fun _ h => h.2.2.2.1)) hH ?_
            (try simp only [List.getElem_toArray, List.getElem_cons_succ, List.getElem_cons_zero, Act.put, List.setIfInBounds_toArray, List.set_cons_succ, List.set_cons_zero])
            refine wpAnyH_take (i := 7) (v := (.int .i8 pr)) rfl (by kernel_rfl) (by kernel_rfl) (by kernel_rfl) (fun _ _ _ h => by cases h.1) (.inl ⟨by kernel_rfl, fun w hw => by go_simp⟩) hH ?_
            (try simp only [List.getElem_toArray, List.getElem_cons_succ, List.getElem_cons_zero, Act.put, List.setIfInBounds_toArray, List.set_cons_succ, List.set_cons_zero])
            refine wpAnyH_ready (rs := [3]) (by kernel_rfl) (by simp) (AllReadyH.cons rfl (fun K hK => ?_) AllReadyH.nil)
            rw [if_pos (by rfl)]
            go_simp
            go_at_call 147
            refine (HC2.out _ _ mb _ hH.1 hH.2.1 (by assumption) (by assumption)).mono ?_
            rintro o X ⟨rfl, hb⟩
            replace hH : X.heap[w.heap.size]? = some (.cells (vrow 1 fun _ => .pointer (some ⟨sb, 0, none⟩)) 73) ∧ X.heap[mb]? = some (.cells (vrow 1 fun _ => .int .i64 m) 3) ∧ X.heap[xb]? = some (.cells (vrow 2 (spAt i2 j2)) 111) ∧ X.heap[xb + 1]? = some (.cells (vrow 2 (spAt i j)) 111) ∧ X.heap[w.heap.size + 1]? = some (.cells (vrow 4 (p4 i j i2 j2)) 130) ∧ w.grownBy X (some sb) := ⟨row_next hb hH.1, row_next hb hH.2.1, row_next hb hH.2.2.1, row_next hb hH.2.2.2.1, row_next hb hH.2.2.2.2.1, grown_next hH.2.2.2.2.2 hb⟩
            replace V := row_next hb V
            clear hb
            refine hK.out _ _ hH (fun hH => ?_)
            clear hK K
            (try simp only [List.getElem_toArray, List.getElem_cons_succ, List.getElem_cons_zero, Act.put, List.setIfInBounds_toArray, List.set_cons_succ, List.set_cons_zero])
            refine wpAnyH_ready (rs := [6]) (by kernel_rfl) (by simp) (AllReadyH.cons rfl (fun K hK => ?_) AllReadyH.nil)
            rw [if_pos (by rfl)]
            go_simp
            go_at_call 147
            refine (HC2.out _ _ mb _ hH.1 hH.2.1 (by assumption) (by assumption)).mono ?_
            rintro o X ⟨rfl, hb⟩
            replace hH : X.heap[w.heap.size]? = some (.cells (vrow 1 fun _ => .pointer (some ⟨sb, 0, none⟩)) 73) ∧ X.heap[mb]? = some (.cells (vrow 1 fun _ => .int .i64 m) 3) ∧ X.heap[xb]? = some (.cells (vrow 2 (spAt i2 j2)) 111) ∧ X.heap[xb + 1]? = some (.cells (vrow 2 (spAt i j)) 111) ∧ X.heap[w.heap.size + 1]? = some (.cells (vrow 4 (p4 i j i2 j2)) 130) ∧ w.grownBy X (some sb) := ⟨row_next hb hH.1, row_next hb hH.2.1, row_next hb hH.2.2.1, row_next hb hH.2.2.2.1, row_next hb hH.2.2.2.2.1, grown_next hH.2.2.2.2.2 hb⟩
            replace V := row_next hb V
            clear hb
            refine hK.out _ _ hH (fun hH => ?_)
            clear hK K
            (try simp only [List.getElem_toArray, List.getElem_cons_succ, List.getElem_cons_zero, Act.put, List.setIfInBounds_toArray, List.set_cons_succ, List.set_cons_zero])
            refine wpAnyH_ready (rs := [8]) (by kernel_rfl) (by simp) (AllReadyH.cons rfl (fun K hK => ?_) AllReadyH.nil)
            rw [if_pos (by rfl)]
            go_simp
            go_at_call 149
            refine (HL.out _ V).mono ?_
            rintro o X ⟨rfl, wq, hb, rfl⟩
            replace hH : wq.heap[w.heap.size]? = some (.cells (vrow 1 fun _ => .pointer (some ⟨sb, 0, none⟩)) 73) ∧ wq.heap[mb]? = some (.cells (vrow 1 fun _ => .int .i64 m) 3) ∧ wq.heap[xb]? = some (.cells (vrow 2 (spAt i2 j2)) 111) ∧ wq.heap[xb + 1]? = some (.cells (vrow 2 (spAt i j)) 111) ∧ wq.heap[w.heap.size + 1]? = some (.cells (vrow 4 (p4 i j i2 j2)) 130) ∧ w.grownBy wq (some sb) := ⟨row_next hb hH.1, row_next hb hH.2.1, row_next hb hH.2.2.1, row_next hb hH.2.2.2.1, row_next hb hH.2.2.2.2.1, grown_next hH.2.2.2.2.2 hb⟩
            replace V := row_next hb V
            clear hb
            replace V := row_set V (vrow N (mixS ((T.ed (24 * j2 + 3 * i2 + m) (T.dye (24 * j2 + 3 * i2 + m) - n)).ed (24 * j + 3 * i + m) (T.dye (24 * j + 3 * i + m) + n)) f))
            replace hH : (wq.setRow sb (vrow N (mixS ((T.ed (24 * j2 + 3 * i2 + m) (T.dye (24 * j2 + 3 * i2 + m) - n)).ed (24 * j + 3 * i + m) (T.dye (24 * j + 3 * i + m) + n)) f))).heap[w.heap.size]? = some (.cells (vrow 1 fun _ => .pointer (some ⟨sb, 0, none⟩)) 73) ∧ (wq.setRow sb (vrow N (mixS ((T.ed (24 * j2 + 3 * i2 + m) (T.dye (24 * j2 + 3 * i2 + m) - n)).ed (24 * j + 3 * i + m) (T.dye (24 * j + 3 * i + m) + n)) f))).heap[mb]? = some (.cells (vrow 1 fun _ => .int .i64 m) 3) ∧ (wq.setRow sb (vrow N (mixS ((T.ed (24 * j2 + 3 * i2 + m) (T.dye (24 * j2 + 3 * i2 + m) - n)).ed (24 * j + 3 * i + m) (T.dye (24 * j + 3 * i + m) + n)) f))).heap[xb]? = some (.cells (vrow 2 (spAt i2 j2)) 111) ∧ (wq.setRow sb (vrow N (mixS ((T.ed (24 * j2 + 3 * i2 + m) (T.dye (24 * j2 + 3 * i2 + m) - n)).ed (24 * j + 3 * i + m) (T.dye (24 * j + 3 * i + m) + n)) f))).heap[xb + 1]? = some (.cells (vrow 2 (spAt i j)) 111) ∧ (wq.setRow sb (vrow N (mixS ((T.ed (24 * j2 + 3 * i2 + m) (T.dye (24 * j2 + 3 * i2 + m) - n)).ed (24 * j + 3 * i + m) (T.dye (24 * j + 3 * i + m) + n)) f))).heap[w.heap.size + 1]? = some (.cells (vrow 4 (p4 i j i2 j2)) 130) ∧ w.grownBy (wq.setRow sb (vrow N (mixS ((T.ed (24 * j2 + 3 * i2 + m) (T.dye (24 * j2 + 3 * i2 + m) - n)).ed (24 * j + 3 * i + m) (T.dye (24 * j + 3 * i + m) + n)) f))) (some sb) := ⟨row_set' (g := sb) (by omega) hH.1 _, row_set' (g := sb) (by omega) hH.2.1 _, row_set' (g := sb) (by omega) hH.2.2.1 _, row_set' (g := sb) (by omega) hH.2.2.2.1 _, row_set' (g := sb) (by omega) hH.2.2.2.2.1 _, grown_set hH.2.2.2.2.2 _⟩
            refine hK.out _ _ hH (fun hH => ?_)
            clear hK K
            (try simp only [List.getElem_toArray, List.getElem_cons_succ, List.getElem_cons_zero, Act.put, List.setIfInBounds_toArray, List.set_cons_succ, List.set_cons_zero])
            refine wpAnyH_take (i := 9) (v := (.int .i64 (mv + n))) rfl (by kernel_rfl) (by kernel_rfl) (by kernel_rfl) (fun _ _ _ h => by cases h.1) (.inl ⟨by kernel_rfl, fun w hw => by go_simp⟩) hH ?_
            (try simp only [List.getElem_toArray, List.getElem_cons_succ, List.getElem_cons_zero, Act.put, List.setIfInBounds_toArray, List.set_cons_succ, List.set_cons_zero])
            refine wpAnyH_take (i := 10) (v := (.int .i64 (mv + n))) rfl (by kernel_rfl) (by kernel_rfl) (by kernel_rfl) (fun _ _ _ h => by cases h.1) (.inl ⟨by kernel_rfl, fun w hw => by go_simp⟩) hH ?_
            (try simp only [List.getElem_toArray, List.getElem_cons_succ, List.getElem_cons_zero, Act.put, List.setIfInBounds_toArray, List.set_cons_succ, List.set_cons_zero])
            refine wpAnyH_done (by kernel_rfl) ?_ _
            exact ⟨rfl, rfl, hH.1, hH.2.1, hH.2.2.1, hH.2.2.2.1, hH.2.2.2.2.1, hH.2.2.2.2.2, V⟩
          rintro e1 a1 W5 ⟨rfl, rfl, SB, M, X, Y, PR, GB, S⟩
          replace S := Go.Lib.hid S; replace SB := Go.Lib.hid SB; replace PR := Go.Lib.hid PR; replace GB := Go.Lib.hid GB
          go_wp2
          go_roundw
          case rel => exact ⟨_, _, _, _, _, _, _, _, _, _, _, _, _, _, _, _, _, _, _, _, _, _, _, _, _, _, _, _, _, _, _, _, ⟨m + 1, by omega, by go_num, by rw [hst.out, hI.out], by rw [hst.out, hI.out]; exact S.out, SB.out, PR.out, GB.out⟩, rfl⟩
          case measure => simp [intOf]; omega
        · skip
          have hI := Go.Lib.hid (prI_lt0 (a := 8 * j + i) hp hneD hlt (show T.wet (8 * j2 + i2) = 0 by omega))
          have hpd : decide (0 < T.wet (8 * j2 + i2)) = false := by simpa using hpos
          go_wp2_with (first
            | go_skip
            | ((with_reducible refine wlOp (.store 3 (.tmp 9) (.tmp 18)) rfl ?_); refine wpList_store1 rfl 3 (.tmp 9) (.tmp 18) rfl wr.heap.size 0 rfl 1 (fun _ => .int .i64 0) (.int .i64 (m : Int)) rfl 3 size_intP (heap_at _ _ _ rfl) (by omega) rfl ?_; rw [vrow_over_all, setRow_at _ _ _ _ _ rfl]; have M := Go.Lib.hid (heap_at wr (.cells (vrow 1 fun _ => .int .i64 m) 3) _ rfl); replace S := Go.Lib.hid (heap_past wr (.cells (vrow 1 fun _ => .int .i64 m) 3) _ _ (row_lt S.out) S.out); replace SB := Go.Lib.hid (heap_past wr (.cells (vrow 1 fun _ => .int .i64 m) 3) _ _ (row_lt SB.out) SB.out); replace PR := Go.Lib.hid (heap_past wr (.cells (vrow 1 fun _ => .int .i64 m) 3) _ _ (row_lt PR.out) PR.out); replace GB := Go.Lib.hid (grown_alloc GB.out (.cells (vrow 1 fun _ => .int .i64 m) 3)); obtain ⟨mb, hmb⟩ : ∃ z, wr.heap.size = z := ⟨_, rfl⟩; rw [hmb] at M hg0 ⊢; obtain ⟨V1, hV1⟩ : ∃ z, wr.alloc (.cells (vrow 1 fun _ => .int .i64 m) 3) = z := ⟨_, rfl⟩; rw [hV1] at S SB PR M GB ⊢; clear hV1 hmb)
            | ((with_reducible refine wlAt 21 rfl ?_); refine wpList_loadall rfl 130 (.tmp 4) rfl (w.heap.size + 1) rfl 4 (p4 i j i2 j2) 130 _ Tryd.underlying130 rfl size_prtP PR.out ?_)
            | (go_at_call 148; (refine (HF.out _ S.out SB.out mb M.out).mono ?_); rintro o w1 ⟨rfl, hb⟩; replace S := Go.Lib.hid (row_next hb S.out); replace SB := Go.Lib.hid (row_next hb SB.out); replace PR := Go.Lib.hid (row_next hb PR.out); replace M := Go.Lib.hid (row_next hb M.out); replace GB := Go.Lib.hid (grown_next GB.out hb); clear hb)
            | ((with_reducible refine wlOp (.store 111 (.tmp 11) (.tmp 24)) rfl ?_); have X := Go.Lib.hid (box_a w1 (.cells (vrow 2 (spAt 0 0)) 111) (.cells (vrow 2 (spAt 0 0)) 111)); have Y := Go.Lib.hid (box_b w1 (.cells (vrow 2 (spAt 0 0)) 111) (.cells (vrow 2 (spAt 0 0)) 111)); have hxl : mb + 1 ≤ w1.heap.size := (by have := row_lt M.out; omega); replace S := Go.Lib.hid (box_o w1 (.cells (vrow 2 (spAt 0 0)) 111) (.cells (vrow 2 (spAt 0 0)) 111) S.out); replace SB := Go.Lib.hid (box_o w1 (.cells (vrow 2 (spAt 0 0)) 111) (.cells (vrow 2 (spAt 0 0)) 111) SB.out); replace PR := Go.Lib.hid (box_o w1 (.cells (vrow 2 (spAt 0 0)) 111) (.cells (vrow 2 (spAt 0 0)) 111) PR.out); replace M := Go.Lib.hid (box_o w1 (.cells (vrow 2 (spAt 0 0)) 111) (.cells (vrow 2 (spAt 0 0)) 111) M.out); replace GB := Go.Lib.hid (grown_alloc (grown_alloc GB.out (.cells (vrow 2 (spAt 0 0)) 111)) (.cells (vrow 2 (spAt 0 0)) 111)); obtain ⟨xb, hxb⟩ : ∃ z, w1.heap.size = z := ⟨_, rfl⟩; rw [hxb] at X Y hxl ⊢; obtain ⟨V2, hV2⟩ : ∃ z, (w1.alloc (.cells (vrow 2 (spAt 0 0)) 111)).alloc (.cells (vrow 2 (spAt 0 0)) 111) = z := ⟨_, rfl⟩; rw [hV2] at X Y S SB PR M GB ⊢; clear hV2 hxb; refine wpList_storeall rfl 111 (.tmp 11) (.tmp 24) rfl xb rfl 2 (spAt 0 0) (spAt i2 j2) rfl 111 size_spot X.out (fun i _ => spAt_one _ _ i) ?_; replace X := Go.Lib.hid (row_set X.out (vrow 2 (spAt i2 j2))); replace Y := Go.Lib.hid (row_set' (g := xb) (by omega) Y.out (vrow 2 (spAt i2 j2))); replace S := Go.Lib.hid (row_set' (g := xb) (by omega) S.out (vrow 2 (spAt i2 j2))); replace SB := Go.Lib.hid (row_set' (g := xb) (by omega) SB.out (vrow 2 (spAt i2 j2))); replace PR := Go.Lib.hid (row_set' (g := xb) (by omega) PR.out (vrow 2 (spAt i2 j2))); replace M := Go.Lib.hid (row_set' (g := xb) (by omega) M.out (vrow 2 (spAt i2 j2))); replace GB := Go.Lib.hid (grown_new' GB.out (show w.heap.size ≤ xb by omega) (vrow 2 (spAt i2 j2))))
            | ((with_reducible refine wlOp (.store 111 (.tmp 12) (.tmp 25)) rfl ?_); refine wpList_storeall rfl 111 (.tmp 12) (.tmp 25) rfl (xb + 1) rfl 2 (spAt 0 0) (spAt i j) rfl 111 size_spot Y.out (fun i _ => spAt_one _ _ i) ?_; replace Y := Go.Lib.hid (row_set Y.out (vrow 2 (spAt i j))); replace X := Go.Lib.hid (row_set' (g := xb + 1) (by omega) X.out (vrow 2 (spAt i j))); replace S := Go.Lib.hid (row_set' (g := xb + 1) (by omega) S.out (vrow 2 (spAt i j))); replace SB := Go.Lib.hid (row_set' (g := xb + 1) (by omega) SB.out (vrow 2 (spAt i j))); replace PR := Go.Lib.hid (row_set' (g := xb + 1) (by omega) PR.out (vrow 2 (spAt i j))); replace M := Go.Lib.hid (row_set' (g := xb + 1) (by omega) M.out (vrow 2 (spAt i j))); replace GB := Go.Lib.hid (grown_new' GB.out (show w.heap.size ≤ xb + 1 by omega) (vrow 2 (spAt i j))))
            | ((with_reducible refine wlAt 27 rfl ?_); refine wpList_loadall rfl 111 (.tmp 11) rfl xb rfl 2 (spAt i2 j2) 111 _ Tryd.underlying111 rfl size_spot X.out ?_)
            | (go_at_call 146; (refine (HC1.out _ _ _ SB.out (by assumption) (by assumption)).mono ?_); rintro o w2 ⟨rfl, hb⟩; replace S := Go.Lib.hid (row_next hb S.out); replace SB := Go.Lib.hid (row_next hb SB.out); replace PR := Go.Lib.hid (row_next hb PR.out); replace M := Go.Lib.hid (row_next hb M.out); replace X := Go.Lib.hid (row_next hb X.out); replace Y := Go.Lib.hid (row_next hb Y.out); replace GB := Go.Lib.hid (grown_next GB.out hb); clear hb)
            | ((with_reducible refine wlAt 30 rfl ?_); refine wpList_ld1 23 _ rfl (by first | exact want_n rfl | exact want_g _ _ _ rfl rfl rfl) sb (2 + j2 * 8 + i2) rfl N (mixS T f) _ rw_i16 S.out (by omega) ?_; rw [EB.out])
            | fail)
          go_roundw
          case rel => exact ⟨m + 1, by omega, by go_num, by rw [hst.out, hI.out]; simp, by rw [hst.out, hI.out]; exact S.out, SB.out, PR.out, GB.out⟩
          case measure => simp [intOf]; omega
      · simp only [if_neg hlt] at HF
        by_cases hpos : 0 < T.wet (8 * j + i)
        · skip
          have HL0 := fun W h => level_any sb (66 + j * 24 + i * 3 + m) (66 + j2 * 24 + i2 * 3 + m) N ty (mixS T f) (T.dye (24 * j + 3 * i + m)) (T.dye (24 * j2 + 3 * i2 + m)) pr W h (mixS_dye T f _ _ (by omega) (by omega)) (mixS_dye T f _ _ (by omega) (by omega)) (by omega) (by omega) (by omega) (by omega) (by omega) (by omega) hp
          rw [mixS_ed T f (66 + j * 24 + i * 3 + m) (24 * j + 3 * i + m) (by omega) (by omega), mixS_ed _ f (66 + j2 * 24 + i2 * 3 + m) (24 * j2 + 3 * i2 + m) (by omega) (by omega)] at HL0
          have hI := Go.Lib.hid (prI_ge (b := 8 * j2 + i2) hp (show T.dye (24 * j2 + 3 * i2 + m) ≤ T.dye (24 * j + 3 * i + m) by omega) hpos)
          have hnb := part_bd (d := T.dye (24 * j + 3 * i + m) - T.dye (24 * j2 + 3 * i2 + m)) (by omega) hp
          generalize ((T.dye (24 * j + 3 * i + m) - T.dye (24 * j2 + 3 * i2 + m)) * pr).tdiv 16 = n at *
          have hwm : IntKind.i64.wrap (mv + n) = mv + n := IntWalk.i64_in _ (by omega)
          have HL := Go.Lib.hid HL0
          clear HL0
          have hpd : decide (0 < T.wet (8 * j + i)) = true := by simpa using hpos
          go_wp2_with (first
            | go_skip
            | ((with_reducible refine wlOp (.store 3 (.tmp 9) (.tmp 18)) rfl ?_); refine wpList_store1 rfl 3 (.tmp 9) (.tmp 18) rfl wr.heap.size 0 rfl 1 (fun _ => .int .i64 0) (.int .i64 (m : Int)) rfl 3 size_intP (heap_at _ _ _ rfl) (by omega) rfl ?_; rw [vrow_over_all, setRow_at _ _ _ _ _ rfl]; have M := Go.Lib.hid (heap_at wr (.cells (vrow 1 fun _ => .int .i64 m) 3) _ rfl); replace S := Go.Lib.hid (heap_past wr (.cells (vrow 1 fun _ => .int .i64 m) 3) _ _ (row_lt S.out) S.out); replace SB := Go.Lib.hid (heap_past wr (.cells (vrow 1 fun _ => .int .i64 m) 3) _ _ (row_lt SB.out) SB.out); replace PR := Go.Lib.hid (heap_past wr (.cells (vrow 1 fun _ => .int .i64 m) 3) _ _ (row_lt PR.out) PR.out); replace GB := Go.Lib.hid (grown_alloc GB.out (.cells (vrow 1 fun _ => .int .i64 m) 3)); obtain ⟨mb, hmb⟩ : ∃ z, wr.heap.size = z := ⟨_, rfl⟩; rw [hmb] at M hg0 ⊢; obtain ⟨V1, hV1⟩ : ∃ z, wr.alloc (.cells (vrow 1 fun _ => .int .i64 m) 3) = z := ⟨_, rfl⟩; rw [hV1] at S SB PR M GB ⊢; clear hV1 hmb)
            | ((with_reducible refine wlAt 21 rfl ?_); refine wpList_loadall rfl 130 (.tmp 4) rfl (w.heap.size + 1) rfl 4 (p4 i j i2 j2) 130 _ Tryd.underlying130 rfl size_prtP PR.out ?_)
            | (go_at_call 148; (refine (HF.out _ S.out SB.out mb M.out).mono ?_); rintro o w1 ⟨rfl, hb⟩; replace S := Go.Lib.hid (row_next hb S.out); replace SB := Go.Lib.hid (row_next hb SB.out); replace PR := Go.Lib.hid (row_next hb PR.out); replace M := Go.Lib.hid (row_next hb M.out); replace GB := Go.Lib.hid (grown_next GB.out hb); clear hb)
            | ((with_reducible refine wlOp (.store 111 (.tmp 11) (.tmp 24)) rfl ?_); have X := Go.Lib.hid (box_a w1 (.cells (vrow 2 (spAt 0 0)) 111) (.cells (vrow 2 (spAt 0 0)) 111)); have Y := Go.Lib.hid (box_b w1 (.cells (vrow 2 (spAt 0 0)) 111) (.cells (vrow 2 (spAt 0 0)) 111)); have hxl : mb + 1 ≤ w1.heap.size := (by have := row_lt M.out; omega); replace S := Go.Lib.hid (box_o w1 (.cells (vrow 2 (spAt 0 0)) 111) (.cells (vrow 2 (spAt 0 0)) 111) S.out); replace SB := Go.Lib.hid (box_o w1 (.cells (vrow 2 (spAt 0 0)) 111) (.cells (vrow 2 (spAt 0 0)) 111) SB.out); replace PR := Go.Lib.hid (box_o w1 (.cells (vrow 2 (spAt 0 0)) 111) (.cells (vrow 2 (spAt 0 0)) 111) PR.out); replace M := Go.Lib.hid (box_o w1 (.cells (vrow 2 (spAt 0 0)) 111) (.cells (vrow 2 (spAt 0 0)) 111) M.out); replace GB := Go.Lib.hid (grown_alloc (grown_alloc GB.out (.cells (vrow 2 (spAt 0 0)) 111)) (.cells (vrow 2 (spAt 0 0)) 111)); obtain ⟨xb, hxb⟩ : ∃ z, w1.heap.size = z := ⟨_, rfl⟩; rw [hxb] at X Y hxl ⊢; obtain ⟨V2, hV2⟩ : ∃ z, (w1.alloc (.cells (vrow 2 (spAt 0 0)) 111)).alloc (.cells (vrow 2 (spAt 0 0)) 111) = z := ⟨_, rfl⟩; rw [hV2] at X Y S SB PR M GB ⊢; clear hV2 hxb; refine wpList_storeall rfl 111 (.tmp 11) (.tmp 24) rfl xb rfl 2 (spAt 0 0) (spAt i j) rfl 111 size_spot X.out (fun i _ => spAt_one _ _ i) ?_; replace X := Go.Lib.hid (row_set X.out (vrow 2 (spAt i j))); replace Y := Go.Lib.hid (row_set' (g := xb) (by omega) Y.out (vrow 2 (spAt i j))); replace S := Go.Lib.hid (row_set' (g := xb) (by omega) S.out (vrow 2 (spAt i j))); replace SB := Go.Lib.hid (row_set' (g := xb) (by omega) SB.out (vrow 2 (spAt i j))); replace PR := Go.Lib.hid (row_set' (g := xb) (by omega) PR.out (vrow 2 (spAt i j))); replace M := Go.Lib.hid (row_set' (g := xb) (by omega) M.out (vrow 2 (spAt i j))); replace GB := Go.Lib.hid (grown_new' GB.out (show w.heap.size ≤ xb by omega) (vrow 2 (spAt i j))))
            | ((with_reducible refine wlOp (.store 111 (.tmp 12) (.tmp 25)) rfl ?_); refine wpList_storeall rfl 111 (.tmp 12) (.tmp 25) rfl (xb + 1) rfl 2 (spAt 0 0) (spAt i2 j2) rfl 111 size_spot Y.out (fun i _ => spAt_one _ _ i) ?_; replace Y := Go.Lib.hid (row_set Y.out (vrow 2 (spAt i2 j2))); replace X := Go.Lib.hid (row_set' (g := xb + 1) (by omega) X.out (vrow 2 (spAt i2 j2))); replace S := Go.Lib.hid (row_set' (g := xb + 1) (by omega) S.out (vrow 2 (spAt i2 j2))); replace SB := Go.Lib.hid (row_set' (g := xb + 1) (by omega) SB.out (vrow 2 (spAt i2 j2))); replace PR := Go.Lib.hid (row_set' (g := xb + 1) (by omega) PR.out (vrow 2 (spAt i2 j2))); replace M := Go.Lib.hid (row_set' (g := xb + 1) (by omega) M.out (vrow 2 (spAt i2 j2))); replace GB := Go.Lib.hid (grown_new' GB.out (show w.heap.size ≤ xb + 1 by omega) (vrow 2 (spAt i2 j2))))
            | ((with_reducible refine wlAt 27 rfl ?_); refine wpList_loadall rfl 111 (.tmp 11) rfl xb rfl 2 (spAt i j) 111 _ Tryd.underlying111 rfl size_spot X.out ?_)
            | (go_at_call 146; (refine (HC1.out _ _ _ SB.out (by assumption) (by assumption)).mono ?_); rintro o w2 ⟨rfl, hb⟩; replace S := Go.Lib.hid (row_next hb S.out); replace SB := Go.Lib.hid (row_next hb SB.out); replace PR := Go.Lib.hid (row_next hb PR.out); replace M := Go.Lib.hid (row_next hb M.out); replace X := Go.Lib.hid (row_next hb X.out); replace Y := Go.Lib.hid (row_next hb Y.out); replace GB := Go.Lib.hid (grown_next GB.out hb); clear hb)
            | ((with_reducible refine wlAt 30 rfl ?_); refine wpList_ld1 23 _ rfl (by first | exact want_n rfl | exact want_g _ _ _ rfl rfl rfl) sb (2 + j * 8 + i) rfl N (mixS T f) _ rw_i16 S.out (by omega) ?_; rw [EA.out])
            | fail)
          have hs0 := row_lt S.out
          refine Code.wp_mono (Q := fun e a' W' => e = .normal ∧ a' = { tmps := #[(.pointer (some ⟨sb, 0, none⟩) : Value), (.agg (vrow 4 (p4 i j i2 j2)) : Value), (.int .i8 pr : Value), (.pointer (some ⟨w.heap.size, 0, none⟩) : Value), (.pointer (some ⟨w.heap.size + 1, 0, none⟩) : Value), undef, (.int .i64 0 : Value), (.func (.func 146) #[] #[.pointer (some ⟨w.heap.size, 0, none⟩)] : Value), (.int .i64 (mv + n) : Value), (.pointer (some ⟨mb, 0, none⟩) : Value), (.func (.func 147) #[] #[.pointer (some ⟨w.heap.size, 0, none⟩), .pointer (some ⟨mb, 0, none⟩)] : Value), (.pointer (some ⟨xb, 0, none⟩) : Value), (.pointer (some ⟨xb + 1, 0, none⟩) : Value), undef, undef, (.func (.func 146) #[] #[.pointer (some ⟨w.heap.size, 0, none⟩)] : Value), (.int .i64 m : Value), (.bool true : Value), (.int .i64 m : Value), (.func (.func 147) #[] #[.pointer (some ⟨w.heap.size, 0, none⟩), .pointer (some ⟨mb, 0, none⟩)] : Value), (.tuple #[.agg (vrow 2 (spAt i j)), .agg (vrow 2 (spAt i2 j2))] : Value), (.agg (vrow 4 (p4 i j i2 j2)) : Value), (.func (.func 147) #[] #[.pointer (some ⟨w.heap.size, 0, none⟩), .pointer (some ⟨mb, 0, none⟩)] : Value), (.tuple #[.agg (vrow 2 (spAt i j)), .agg (vrow 2 (spAt i2 j2))] : Value), (.agg (vrow 2 (spAt i j)) : Value), (.agg (vrow 2 (spAt i2 j2)) : Value), (.func (.func 146) #[] #[.pointer (some ⟨w.heap.size, 0, none⟩)] : Value), (.agg (vrow 2 (spAt i j)) : Value), (.pointer (some ⟨sb, 2 + j * 8 + i, none⟩) : Value), (.pointer (some ⟨sb, 2 + j * 8 + i, none⟩) : Value), (.int .i16 (T.wet (8 * j + i)) : Value), (.bool true : Value), (.int .i64 mv : Value), (.func (.func 147) #[] #[.pointer (some ⟨w.heap.size, 0, none⟩), .pointer (some ⟨mb, 0, none⟩)] : Value), (.agg (vrow 2 (spAt i j)) : Value), (.pointer (some ⟨sb, 66 + j * 24 + i * 3 + m, none⟩) : Value), (.func (.func 147) #[] #[.pointer (some ⟨w.heap.size, 0, none⟩), .pointer (some ⟨mb, 0, none⟩)] : Value), (.agg (vrow 2 (spAt i2 j2)) : Value), (.pointer (some ⟨sb, 66 + j2 * 24 + i2 * 3 + m, none⟩) : Value), (.int .i8 pr : Value), (.int .i64 n : Value), (.int .i64 (mv + n) : Value), u42, undef, undef, undef, undef, undef, undef, undef, undef, undef, undef, undef, undef, undef, undef, undef], defers := [] } ∧ W'.heap[w.heap.size]? = some (.cells (vrow 1 fun _ => .pointer (some ⟨sb, 0, none⟩)) 73) ∧ W'.heap[mb]? = some (.cells (vrow 1 fun _ => .int .i64 m) 3) ∧ W'.heap[xb]? = some (.cells (vrow 2 (spAt i j)) 111) ∧ W'.heap[xb + 1]? = some (.cells (vrow 2 (spAt i2 j2)) 111) ∧ W'.heap[w.heap.size + 1]? = some (.cells (vrow 4 (p4 i j i2 j2)) 130) ∧ w.grownBy W' (some sb) ∧ W'.heap[sb]? = some (.cells (vrow N (mixS ((T.ed (24 * j + 3 * i + m) (T.dye (24 * j + 3 * i + m) - n)).ed (24 * j2 + 3 * i2 + m) (T.dye (24 * j2 + 3 * i2 + m) + n)) f)) ty)) ?_ ?_
          rotate_left
          · refine wp_region_held_drew (S := fun X => X.heap[w.heap.size]? = some (.cells (vrow 1 fun _ => .pointer (some ⟨sb, 0, none⟩)) 73) ∧ X.heap[mb]? = some (.cells (vrow 1 fun _ => .int .i64 m) 3) ∧ X.heap[xb]? = some (.cells (vrow 2 (spAt i j)) 111) ∧ X.heap[xb + 1]? = some (.cells (vrow 2 (spAt i2 j2)) 111) ∧ X.heap[w.heap.size + 1]? = some (.cells (vrow 4 (p4 i j i2 j2)) 130) ∧ w.grownBy X (some sb)) (by kernel_rfl) ⟨drwP SB.out, drwP M.out, drwP X.out, drwP Y.out, drwP PR.out, grown_drew GB.out⟩ (fun hH => ?_)
            have V := drwP S.out
            clear S SB PR GB M X Y
            generalize World.drew _ = W at hH V ⊢
            refine wpAnyH_take (i := 0) (v := (.int .i64 mv)) rfl (by kernel_rfl) (by kernel_rfl) (by kernel_rfl) (fun _ _ _ h => by cases h.1) (.inl ⟨by kernel_rfl, fun w hw => by go_simp⟩) hH ?_
            (try simp only [List.getElem_toArray, List.getElem_cons_succ, List.getElem_cons_zero, Act.put, List.setIfInBounds_toArray, List.set_cons_succ, List.set_cons_zero])
            refine wpAnyH_take (i := 1) (v := (.func (.func 147) #[] #[.pointer (some ⟨w.heap.size, 0, none⟩), .pointer (some ⟨mb, 0, none⟩)])) rfl (by kernel_rfl) (by kernel_rfl) (by kernel_rfl) (fun _ _ _ h => by cases h.1) (.inl ⟨by kernel_rfl, fun w hw => by go_simp⟩) hH ?_
            (try simp only [List.getElem_toArray, List.getElem_cons_succ, List.getElem_cons_zero, Act.put, List.setIfInBounds_toArray, List.set_cons_succ, List.set_cons_zero])
            refine wpAnyH_take (i := 2) (v := (.agg (vrow 2 (spAt i j)))) rfl (by kernel_rfl) (by kernel_rfl) (by kernel_rfl) (fun _ _ _ h => by cases h.1) (yields_row (by kernel_rfl) 111 _ rfl (xb) rfl 2 (spAt i j) 111 _ Tryd.underlying111 rfl size_spot (fun _ h => h.2.2.1)) hH ?_
            (try simp only [List.getElem_toArray, List.getElem_cons_succ, List.getElem_cons_zero, Act.put, List.setIfInBounds_toArray, List.set_cons_succ, List.set_cons_zero])
            refine wpAnyH_take (i := 4) (v := (.func (.func 147) #[] #[.pointer (some ⟨w.heap.size, 0, none⟩), .pointer (some ⟨mb, 0, none⟩)])) rfl (by kernel_rfl) (by kernel_rfl) (by kernel_rfl) (fun _ _ _ h => by cases h.1) (.inl ⟨by kernel_rfl, fun w hw => by go_simp⟩) hH ?_
            (try simp only [List.getElem_toArray, List.getElem_cons_succ, List.getElem_cons_zero, Act.put, List.setIfInBounds_toArray, List.set_cons_succ, List.set_cons_zero])
            refine wpAnyH_take (i := 5) (v := (.agg (vrow 2 (spAt i2 j2)))) rfl (by kernel_rfl) (by kernel_rfl) (by kernel_rfl) (fun _ _ _ h => by cases h.1) (yields_row (by kernel_rfl) 111 _ rfl (xb + 1) rfl 2 (spAt i2 j2) 111 _ Tryd.underlying111 rfl size_spot (fun _ h => h.2.2.2.1)) hH ?_
            (try simp only [List.getElem_toArray, List.getElem_cons_succ, List.getElem_cons_zero, Act.put, List.setIfInBounds_toArray, List.set_cons_succ, List.set_cons_zero])
            refine wpAnyH_take (i := 7) (v := (.int .i8 pr)) rfl (by kernel_rfl) (by kernel_rfl) (by kernel_rfl) (fun _ _ _ h => by cases h.1) (.inl ⟨by kernel_rfl, fun w hw => by go_simp⟩) hH ?_
            (try simp only [List.getElem_toArray, List.getElem_cons_succ, List.getElem_cons_zero, Act.put, List.setIfInBounds_toArray, List.set_cons_succ, List.set_cons_zero])
            refine wpAnyH_ready (rs := [3]) (by kernel_rfl) (by simp) (AllReadyH.cons rfl (fun K hK => ?_) AllReadyH.nil)
            rw [if_pos (by rfl)]
            go_simp
            go_at_call 147
            refine (HC2.out _ _ mb _ hH.1 hH.2.1 (by assumption) (by assumption)).mono ?_
            rintro o X ⟨rfl, hb⟩
            replace hH : X.heap[w.heap.size]? = some (.cells (vrow 1 fun _ => .pointer (some ⟨sb, 0, none⟩)) 73) ∧ X.heap[mb]? = some (.cells (vrow 1 fun _ => .int .i64 m) 3) ∧ X.heap[xb]? = some (.cells (vrow 2 (spAt i j)) 111) ∧ X.heap[xb + 1]? = some (.cells (vrow 2 (spAt i2 j2)) 111) ∧ X.heap[w.heap.size + 1]? = some (.cells (vrow 4 (p4 i j i2 j2)) 130) ∧ w.grownBy X (some sb) := ⟨row_next hb hH.1, row_next hb hH.2.1, row_next hb hH.2.2.1, row_next hb hH.2.2.2.1, row_next hb hH.2.2.2.2.1, grown_next hH.2.2.2.2.2 hb⟩
            replace V := row_next hb V
            clear hb
            refine hK.out _ _ hH (fun hH => ?_)
            clear hK K
            (try simp only [List.getElem_toArray, List.getElem_cons_succ, List.getElem_cons_zero, Act.put, List.setIfInBounds_toArray, List.set_cons_succ, List.set_cons_zero])
            refine wpAnyH_ready (rs := [6]) (by kernel_rfl) (by simp) (AllReadyH.cons rfl (fun K hK => ?_) AllReadyH.nil)
            rw [if_pos (by rfl)]
            go_simp
            go_at_call 147
            refine (HC2.out _ _ mb _ hH.1 hH.2.1 (by assumption) (by assumption)).mono ?_
            rintro o X ⟨rfl, hb⟩
            replace hH : X.heap[w.heap.size]? = some (.cells (vrow 1 fun _ => .pointer (some ⟨sb, 0, none⟩)) 73) ∧ X.heap[mb]? = some (.cells (vrow 1 fun _ => .int .i64 m) 3) ∧ X.heap[xb]? = some (.cells (vrow 2 (spAt i j)) 111) ∧ X.heap[xb + 1]? = some (.cells (vrow 2 (spAt i2 j2)) 111) ∧ X.heap[w.heap.size + 1]? = some (.cells (vrow 4 (p4 i j i2 j2)) 130) ∧ w.grownBy X (some sb) := ⟨row_next hb hH.1, row_next hb hH.2.1, row_next hb hH.2.2.1, row_next hb hH.2.2.2.1, row_next hb hH.2.2.2.2.1, grown_next hH.2.2.2.2.2 hb⟩
            replace V := row_next hb V
            clear hb
            refine hK.out _ _ hH (fun hH => ?_)
            clear hK K
            (try simp only [List.getElem_toArray, List.getElem_cons_succ, List.getElem_cons_zero, Act.put, List.setIfInBounds_toArray, List.set_cons_succ, List.set_cons_zero])
            refine wpAnyH_ready (rs := [8]) (by kernel_rfl) (by simp) (AllReadyH.cons rfl (fun K hK => ?_) AllReadyH.nil)
            rw [if_pos (by rfl)]
            go_simp
            go_at_call 149
            refine (HL.out _ V).mono ?_
            rintro o X ⟨rfl, wq, hb, rfl⟩
            replace hH : wq.heap[w.heap.size]? = some (.cells (vrow 1 fun _ => .pointer (some ⟨sb, 0, none⟩)) 73) ∧ wq.heap[mb]? = some (.cells (vrow 1 fun _ => .int .i64 m) 3) ∧ wq.heap[xb]? = some (.cells (vrow 2 (spAt i j)) 111) ∧ wq.heap[xb + 1]? = some (.cells (vrow 2 (spAt i2 j2)) 111) ∧ wq.heap[w.heap.size + 1]? = some (.cells (vrow 4 (p4 i j i2 j2)) 130) ∧ w.grownBy wq (some sb) := ⟨row_next hb hH.1, row_next hb hH.2.1, row_next hb hH.2.2.1, row_next hb hH.2.2.2.1, row_next hb hH.2.2.2.2.1, grown_next hH.2.2.2.2.2 hb⟩
            replace V := row_next hb V
            clear hb
            replace V := row_set V (vrow N (mixS ((T.ed (24 * j + 3 * i + m) (T.dye (24 * j + 3 * i + m) - n)).ed (24 * j2 + 3 * i2 + m) (T.dye (24 * j2 + 3 * i2 + m) + n)) f))
            replace hH : (wq.setRow sb (vrow N (mixS ((T.ed (24 * j + 3 * i + m) (T.dye (24 * j + 3 * i + m) - n)).ed (24 * j2 + 3 * i2 + m) (T.dye (24 * j2 + 3 * i2 + m) + n)) f))).heap[w.heap.size]? = some (.cells (vrow 1 fun _ => .pointer (some ⟨sb, 0, none⟩)) 73) ∧ (wq.setRow sb (vrow N (mixS ((T.ed (24 * j + 3 * i + m) (T.dye (24 * j + 3 * i + m) - n)).ed (24 * j2 + 3 * i2 + m) (T.dye (24 * j2 + 3 * i2 + m) + n)) f))).heap[mb]? = some (.cells (vrow 1 fun _ => .int .i64 m) 3) ∧ (wq.setRow sb (vrow N (mixS ((T.ed (24 * j + 3 * i + m) (T.dye (24 * j + 3 * i + m) - n)).ed (24 * j2 + 3 * i2 + m) (T.dye (24 * j2 + 3 * i2 + m) + n)) f))).heap[xb]? = some (.cells (vrow 2 (spAt i j)) 111) ∧ (wq.setRow sb (vrow N (mixS ((T.ed (24 * j + 3 * i + m) (T.dye (24 * j + 3 * i + m) - n)).ed (24 * j2 + 3 * i2 + m) (T.dye (24 * j2 + 3 * i2 + m) + n)) f))).heap[xb + 1]? = some (.cells (vrow 2 (spAt i2 j2)) 111) ∧ (wq.setRow sb (vrow N (mixS ((T.ed (24 * j + 3 * i + m) (T.dye (24 * j + 3 * i + m) - n)).ed (24 * j2 + 3 * i2 + m) (T.dye (24 * j2 + 3 * i2 + m) + n)) f))).heap[w.heap.size + 1]? = some (.cells (vrow 4 (p4 i j i2 j2)) 130) ∧ w.grownBy (wq.setRow sb (vrow N (mixS ((T.ed (24 * j + 3 * i + m) (T.dye (24 * j + 3 * i + m) - n)).ed (24 * j2 + 3 * i2 + m) (T.dye (24 * j2 + 3 * i2 + m) + n)) f))) (some sb) := ⟨row_set' (g := sb) (by omega) hH.1 _, row_set' (g := sb) (by omega) hH.2.1 _, row_set' (g := sb) (by omega) hH.2.2.1 _, row_set' (g := sb) (by omega) hH.2.2.2.1 _, row_set' (g := sb) (by omega) hH.2.2.2.2.1 _, grown_set hH.2.2.2.2.2 _⟩
            refine hK.out _ _ hH (fun hH => ?_)
            clear hK K
            (try simp only [List.getElem_toArray, List.getElem_cons_succ, List.getElem_cons_zero, Act.put, List.setIfInBounds_toArray, List.set_cons_succ, List.set_cons_zero])
            refine wpAnyH_take (i := 9) (v := (.int .i64 (mv + n))) rfl (by kernel_rfl) (by kernel_rfl) (by kernel_rfl) (fun _ _ _ h => by cases h.1) (.inl ⟨by kernel_rfl, fun w hw => by go_simp⟩) hH ?_
            (try simp only [List.getElem_toArray, List.getElem_cons_succ, List.getElem_cons_zero, Act.put, List.setIfInBounds_toArray, List.set_cons_succ, List.set_cons_zero])
            refine wpAnyH_take (i := 10) (v := (.int .i64 (mv + n))) rfl (by kernel_rfl) (by kernel_rfl) (by kernel_rfl) (fun _ _ _ h => by cases h.1) (.inl ⟨by kernel_rfl, fun w hw => by go_simp⟩) hH ?_
            (try simp only [List.getElem_toArray, List.getElem_cons_succ, List.getElem_cons_zero, Act.put, List.setIfInBounds_toArray, List.set_cons_succ, List.set_cons_zero])
            refine wpAnyH_done (by kernel_rfl) ?_ _
            exact ⟨rfl, rfl, hH.1, hH.2.1, hH.2.2.1, hH.2.2.2.1, hH.2.2.2.2.1, hH.2.2.2.2.2, V⟩
          rintro e1 a1 W5 ⟨rfl, rfl, SB, M, X, Y, PR, GB, S⟩
          replace S := Go.Lib.hid S; replace SB := Go.Lib.hid SB; replace PR := Go.Lib.hid PR; replace GB := Go.Lib.hid GB
          go_wp2
          go_roundw
          case rel => exact ⟨_, _, _, _, _, _, _, _, _, _, _, _, _, _, _, _, _, _, _, _, _, _, _, _, _, _, _, _, _, _, _, _, ⟨m + 1, by omega, by go_num, by rw [hst.out, hI.out], by rw [hst.out, hI.out]; exact S.out, SB.out, PR.out, GB.out⟩, rfl⟩
          case measure => simp [intOf]; omega
        · skip
          have hI := Go.Lib.hid (prI_ge0 (b := 8 * j2 + i2) hp hneD (show T.dye (24 * j2 + 3 * i2 + m) ≤ T.dye (24 * j + 3 * i + m) by omega) (show T.wet (8 * j + i) = 0 by omega))
          have hpd : decide (0 < T.wet (8 * j + i)) = false := by simpa using hpos
          go_wp2_with (first
            | go_skip
            | ((with_reducible refine wlOp (.store 3 (.tmp 9) (.tmp 18)) rfl ?_); refine wpList_store1 rfl 3 (.tmp 9) (.tmp 18) rfl wr.heap.size 0 rfl 1 (fun _ => .int .i64 0) (.int .i64 (m : Int)) rfl 3 size_intP (heap_at _ _ _ rfl) (by omega) rfl ?_; rw [vrow_over_all, setRow_at _ _ _ _ _ rfl]; have M := Go.Lib.hid (heap_at wr (.cells (vrow 1 fun _ => .int .i64 m) 3) _ rfl); replace S := Go.Lib.hid (heap_past wr (.cells (vrow 1 fun _ => .int .i64 m) 3) _ _ (row_lt S.out) S.out); replace SB := Go.Lib.hid (heap_past wr (.cells (vrow 1 fun _ => .int .i64 m) 3) _ _ (row_lt SB.out) SB.out); replace PR := Go.Lib.hid (heap_past wr (.cells (vrow 1 fun _ => .int .i64 m) 3) _ _ (row_lt PR.out) PR.out); replace GB := Go.Lib.hid (grown_alloc GB.out (.cells (vrow 1 fun _ => .int .i64 m) 3)); obtain ⟨mb, hmb⟩ : ∃ z, wr.heap.size = z := ⟨_, rfl⟩; rw [hmb] at M hg0 ⊢; obtain ⟨V1, hV1⟩ : ∃ z, wr.alloc (.cells (vrow 1 fun _ => .int .i64 m) 3) = z := ⟨_, rfl⟩; rw [hV1] at S SB PR M GB ⊢; clear hV1 hmb)
            | ((with_reducible refine wlAt 21 rfl ?_); refine wpList_loadall rfl 130 (.tmp 4) rfl (w.heap.size + 1) rfl 4 (p4 i j i2 j2) 130 _ Tryd.underlying130 rfl size_prtP PR.out ?_)
            | (go_at_call 148; (refine (HF.out _ S.out SB.out mb M.out).mono ?_); rintro o w1 ⟨rfl, hb⟩; replace S := Go.Lib.hid (row_next hb S.out); replace SB := Go.Lib.hid (row_next hb SB.out); replace PR := Go.Lib.hid (row_next hb PR.out); replace M := Go.Lib.hid (row_next hb M.out); replace GB := Go.Lib.hid (grown_next GB.out hb); clear hb)
            | ((with_reducible refine wlOp (.store 111 (.tmp 11) (.tmp 24)) rfl ?_); have X := Go.Lib.hid (box_a w1 (.cells (vrow 2 (spAt 0 0)) 111) (.cells (vrow 2 (spAt 0 0)) 111)); have Y := Go.Lib.hid (box_b w1 (.cells (vrow 2 (spAt 0 0)) 111) (.cells (vrow 2 (spAt 0 0)) 111)); have hxl : mb + 1 ≤ w1.heap.size := (by have := row_lt M.out; omega); replace S := Go.Lib.hid (box_o w1 (.cells (vrow 2 (spAt 0 0)) 111) (.cells (vrow 2 (spAt 0 0)) 111) S.out); replace SB := Go.Lib.hid (box_o w1 (.cells (vrow 2 (spAt 0 0)) 111) (.cells (vrow 2 (spAt 0 0)) 111) SB.out); replace PR := Go.Lib.hid (box_o w1 (.cells (vrow 2 (spAt 0 0)) 111) (.cells (vrow 2 (spAt 0 0)) 111) PR.out); replace M := Go.Lib.hid (box_o w1 (.cells (vrow 2 (spAt 0 0)) 111) (.cells (vrow 2 (spAt 0 0)) 111) M.out); replace GB := Go.Lib.hid (grown_alloc (grown_alloc GB.out (.cells (vrow 2 (spAt 0 0)) 111)) (.cells (vrow 2 (spAt 0 0)) 111)); obtain ⟨xb, hxb⟩ : ∃ z, w1.heap.size = z := ⟨_, rfl⟩; rw [hxb] at X Y hxl ⊢; obtain ⟨V2, hV2⟩ : ∃ z, (w1.alloc (.cells (vrow 2 (spAt 0 0)) 111)).alloc (.cells (vrow 2 (spAt 0 0)) 111) = z := ⟨_, rfl⟩; rw [hV2] at X Y S SB PR M GB ⊢; clear hV2 hxb; refine wpList_storeall rfl 111 (.tmp 11) (.tmp 24) rfl xb rfl 2 (spAt 0 0) (spAt i j) rfl 111 size_spot X.out (fun i _ => spAt_one _ _ i) ?_; replace X := Go.Lib.hid (row_set X.out (vrow 2 (spAt i j))); replace Y := Go.Lib.hid (row_set' (g := xb) (by omega) Y.out (vrow 2 (spAt i j))); replace S := Go.Lib.hid (row_set' (g := xb) (by omega) S.out (vrow 2 (spAt i j))); replace SB := Go.Lib.hid (row_set' (g := xb) (by omega) SB.out (vrow 2 (spAt i j))); replace PR := Go.Lib.hid (row_set' (g := xb) (by omega) PR.out (vrow 2 (spAt i j))); replace M := Go.Lib.hid (row_set' (g := xb) (by omega) M.out (vrow 2 (spAt i j))); replace GB := Go.Lib.hid (grown_new' GB.out (show w.heap.size ≤ xb by omega) (vrow 2 (spAt i j))))
            | ((with_reducible refine wlOp (.store 111 (.tmp 12) (.tmp 25)) rfl ?_); refine wpList_storeall rfl 111 (.tmp 12) (.tmp 25) rfl (xb + 1) rfl 2 (spAt 0 0) (spAt i2 j2) rfl 111 size_spot Y.out (fun i _ => spAt_one _ _ i) ?_; replace Y := Go.Lib.hid (row_set Y.out (vrow 2 (spAt i2 j2))); replace X := Go.Lib.hid (row_set' (g := xb + 1) (by omega) X.out (vrow 2 (spAt i2 j2))); replace S := Go.Lib.hid (row_set' (g := xb + 1) (by omega) S.out (vrow 2 (spAt i2 j2))); replace SB := Go.Lib.hid (row_set' (g := xb + 1) (by omega) SB.out (vrow 2 (spAt i2 j2))); replace PR := Go.Lib.hid (row_set' (g := xb + 1) (by omega) PR.out (vrow 2 (spAt i2 j2))); replace M := Go.Lib.hid (row_set' (g := xb + 1) (by omega) M.out (vrow 2 (spAt i2 j2))); replace GB := Go.Lib.hid (grown_new' GB.out (show w.heap.size ≤ xb + 1 by omega) (vrow 2 (spAt i2 j2))))
            | ((with_reducible refine wlAt 27 rfl ?_); refine wpList_loadall rfl 111 (.tmp 11) rfl xb rfl 2 (spAt i j) 111 _ Tryd.underlying111 rfl size_spot X.out ?_)
            | (go_at_call 146; (refine (HC1.out _ _ _ SB.out (by assumption) (by assumption)).mono ?_); rintro o w2 ⟨rfl, hb⟩; replace S := Go.Lib.hid (row_next hb S.out); replace SB := Go.Lib.hid (row_next hb SB.out); replace PR := Go.Lib.hid (row_next hb PR.out); replace M := Go.Lib.hid (row_next hb M.out); replace X := Go.Lib.hid (row_next hb X.out); replace Y := Go.Lib.hid (row_next hb Y.out); replace GB := Go.Lib.hid (grown_next GB.out hb); clear hb)
            | ((with_reducible refine wlAt 30 rfl ?_); refine wpList_ld1 23 _ rfl (by first | exact want_n rfl | exact want_g _ _ _ rfl rfl rfl) sb (2 + j * 8 + i) rfl N (mixS T f) _ rw_i16 S.out (by omega) ?_; rw [EA.out])
            | fail)
          go_roundw
          case rel => exact ⟨m + 1, by omega, by go_num, by rw [hst.out, hI.out]; simp, by rw [hst.out, hI.out]; exact S.out, SB.out, PR.out, GB.out⟩
          case measure => simp [intOf]; omega
    · obtain rfl : m = 3 := by omega
      have hmd : decide (((3 : Nat) : Int) < 3) = false := by simp
      have bT := (hbd 3 (by omega) (by omega)).1
      obtain ⟨U, hU⟩ : ∃ U, prC pr s (24 * j + 3 * i) (24 * j2 + 3 * i2) (8 * j + i) (8 * j2 + i2) 3 = U := ⟨_, rfl⟩
      rw [hU] at bT S ⊢
      have HU := Go.Lib.hid hU
      clear hU
      obtain ⟨T, mv⟩ := U
      dsimp only at *
      have ba := bT.2 (8 * j + i) (by omega); have bb := bT.2 (8 * j2 + i2) (by omega)
      clear bT hbd
      have HF := Go.Lib.hid fun W h1 h2 => fallW_any T f sb w.heap.size i j i2 j2 N ty W hN h1 h2 hi hj hi2 hj2
      have HC1 := Go.Lib.hid fun (x y : Nat) W h hx hy => wetP_any sb w.heap.size x y W h hx hy
      replace S := Go.Lib.hid S; replace SB := Go.Lib.hid SB; replace PR := Go.Lib.hid PR; replace GB := Go.Lib.hid GB
      by_cases hlt : T.wet (8 * j + i) < T.wet (8 * j2 + i2)
      · skip
        simp only [if_pos hlt] at HF
        have HL0 := fun W h => level_any sb (2 + j2 * 8 + i2) (2 + j * 8 + i) N ty (mixS T f) (T.wet (8 * j2 + i2)) (T.wet (8 * j + i)) pr W h (mixS_wet T f _ _ (by omega) (by omega)) (mixS_wet T f _ _ (by omega) (by omega)) (by omega) (by omega) (by omega) (by omega) (by omega) (by omega) hp
        rw [mixS_ew T f (2 + j2 * 8 + i2) (8 * j2 + i2) (by omega) (by omega), mixS_ew _ f (2 + j * 8 + i) (8 * j + i) (by omega) (by omega)] at HL0
        have hI := Go.Lib.hid (prW_lt (pr := pr) hne hlt)
        generalize ((T.wet (8 * j2 + i2) - T.wet (8 * j + i)) * pr).tdiv 16 = n at *
        have HL := Go.Lib.hid HL0
        clear HL0
        go_wp2_with (first
          | go_skip
          | ((with_reducible refine wlAt 44 rfl ?_); refine wpList_loadall rfl 130 (.tmp 4) rfl (w.heap.size + 1) rfl 4 (p4 i j i2 j2) 130 _ Tryd.underlying130 rfl size_prtP PR.out ?_)
          | (go_at_call 148; (refine (HF.out _ S.out SB.out).mono ?_); rintro o w1 ⟨rfl, hb⟩; replace S := Go.Lib.hid (row_next hb S.out); replace SB := Go.Lib.hid (row_next hb SB.out); replace PR := Go.Lib.hid (row_next hb PR.out); replace GB := Go.Lib.hid (grown_next GB.out hb); clear hb)
          | ((with_reducible refine wlOp (.store 111 (.tmp 13) (.tmp 47)) rfl ?_); have X := Go.Lib.hid (box_a w1 (.cells (vrow 2 (spAt 0 0)) 111) (.cells (vrow 2 (spAt 0 0)) 111)); have Y := Go.Lib.hid (box_b w1 (.cells (vrow 2 (spAt 0 0)) 111) (.cells (vrow 2 (spAt 0 0)) 111)); have hxl : w.heap.size + 2 ≤ w1.heap.size := (by have := row_lt PR.out; omega); replace S := Go.Lib.hid (box_o w1 (.cells (vrow 2 (spAt 0 0)) 111) (.cells (vrow 2 (spAt 0 0)) 111) S.out); replace SB := Go.Lib.hid (box_o w1 (.cells (vrow 2 (spAt 0 0)) 111) (.cells (vrow 2 (spAt 0 0)) 111) SB.out); replace PR := Go.Lib.hid (box_o w1 (.cells (vrow 2 (spAt 0 0)) 111) (.cells (vrow 2 (spAt 0 0)) 111) PR.out); replace GB := Go.Lib.hid (grown_alloc (grown_alloc GB.out (.cells (vrow 2 (spAt 0 0)) 111)) (.cells (vrow 2 (spAt 0 0)) 111)); obtain ⟨xb, hxb⟩ : ∃ z, w1.heap.size = z := ⟨_, rfl⟩; rw [hxb] at X Y hxl ⊢; obtain ⟨V2, hV2⟩ : ∃ z, (w1.alloc (.cells (vrow 2 (spAt 0 0)) 111)).alloc (.cells (vrow 2 (spAt 0 0)) 111) = z := ⟨_, rfl⟩; rw [hV2] at X Y S SB PR GB ⊢; clear hV2 hxb; refine wpList_storeall rfl 111 (.tmp 13) (.tmp 47) rfl xb rfl 2 (spAt 0 0) (spAt i2 j2) rfl 111 size_spot X.out (fun i _ => spAt_one _ _ i) ?_; replace X := Go.Lib.hid (row_set X.out (vrow 2 (spAt i2 j2))); replace Y := Go.Lib.hid (row_set' (g := xb) (by omega) Y.out (vrow 2 (spAt i2 j2))); replace S := Go.Lib.hid (row_set' (g := xb) (by omega) S.out (vrow 2 (spAt i2 j2))); replace SB := Go.Lib.hid (row_set' (g := xb) (by omega) SB.out (vrow 2 (spAt i2 j2))); replace PR := Go.Lib.hid (row_set' (g := xb) (by omega) PR.out (vrow 2 (spAt i2 j2))); replace GB := Go.Lib.hid (grown_new' GB.out (show w.heap.size ≤ xb by omega) (vrow 2 (spAt i2 j2))))
          | ((with_reducible refine wlOp (.store 111 (.tmp 14) (.tmp 48)) rfl ?_); refine wpList_storeall rfl 111 (.tmp 14) (.tmp 48) rfl (xb + 1) rfl 2 (spAt 0 0) (spAt i j) rfl 111 size_spot Y.out (fun i _ => spAt_one _ _ i) ?_; replace Y := Go.Lib.hid (row_set Y.out (vrow 2 (spAt i j))); replace X := Go.Lib.hid (row_set' (g := xb + 1) (by omega) X.out (vrow 2 (spAt i j))); replace S := Go.Lib.hid (row_set' (g := xb + 1) (by omega) S.out (vrow 2 (spAt i j))); replace SB := Go.Lib.hid (row_set' (g := xb + 1) (by omega) SB.out (vrow 2 (spAt i j))); replace PR := Go.Lib.hid (row_set' (g := xb + 1) (by omega) PR.out (vrow 2 (spAt i j))); replace GB := Go.Lib.hid (grown_new' GB.out (show w.heap.size ≤ xb + 1 by omega) (vrow 2 (spAt i j))))
          | fail)
        (try simp only [Act.put])
        refine region_qt 7 (by kernel_rfl) (by kernel_rfl) ?_
        intro W3 hW
        rw [hW] at S SB PR X Y GB
        clear hW
        simp only [List.take_succ_cons, List.take_zero, List.drop_succ_cons, List.drop_zero]
        have X' := Go.Lib.hid (cls_row' X.out); have Y' := Go.Lib.hid (cls_row' Y.out)
        (repeat (first
          | go_big_quiet_skip
          | (refine wpQuiet_loadmid 111 _ rfl (by first | exact want_n rfl | exact want_g _ _ _ rfl rfl rfl) xb 0 rfl 2 2 (spAt i2 j2) _ rw_spot size_spot X'.out (by omega) ?_; simp only [Nat.zero_add]; simp only [Act.put, List.setIfInBounds_toArray, List.set_cons_succ, List.set_cons_zero])
          | (refine wpQuiet_loadmid 111 _ rfl (by first | exact want_n rfl | exact want_g _ _ _ rfl rfl rfl) (xb + 1) 0 rfl 2 2 (spAt i j) _ rw_spot size_spot Y'.out (by omega) ?_; simp only [Nat.zero_add]; simp only [Act.put, List.setIfInBounds_toArray, List.set_cons_succ, List.set_cons_zero])
          | go_big_quiet_step ((go_at_call 146; exact cls_call _ (fun w hw => HC1.out _ _ w (row_next hw SB.out) (by assumption) (by assumption))))))
        refine wpQuiet_nil ?_
        intro W4 hb
        replace S := Go.Lib.hid (row_next hb S.out); replace SB := Go.Lib.hid (row_next hb SB.out); replace PR := Go.Lib.hid (row_next hb PR.out); replace X := Go.Lib.hid (row_next hb X.out); replace Y := Go.Lib.hid (row_next hb Y.out); replace GB := Go.Lib.hid (grown_next GB.out hb)
        clear hb X' Y'
        go_wp2_with (first
          | go_skip
          | (go_at_call 149; (refine (HL.out _ S.out).mono ?_); rintro o w5 ⟨rfl, wq, hb, rfl⟩; replace S := Go.Lib.hid (row_next hb S.out); replace GB := Go.Lib.hid (grown_next GB.out hb); clear hb; replace S := Go.Lib.hid (row_set S.out (vrow N (mixS ((T.ew (8 * j2 + i2) (T.wet (8 * j2 + i2) - n)).ew (8 * j + i) (T.wet (8 * j + i) + n)) f))); replace GB := Go.Lib.hid (grown_set GB.out (vrow N (mixS ((T.ew (8 * j2 + i2) (T.wet (8 * j2 + i2) - n)).ew (8 * j + i) (T.wet (8 * j + i) + n)) f)))))
        go_ret
        exact ⟨by rw [HU.out]; rfl, GB.out, by rw [HU.out]; dsimp only; rw [hI.out]; exact S.out⟩
      · skip
        simp only [if_neg hlt] at HF
        have HL0 := fun W h => level_any sb (2 + j * 8 + i) (2 + j2 * 8 + i2) N ty (mixS T f) (T.wet (8 * j + i)) (T.wet (8 * j2 + i2)) pr W h (mixS_wet T f _ _ (by omega) (by omega)) (mixS_wet T f _ _ (by omega) (by omega)) (by omega) (by omega) (by omega) (by omega) (by omega) (by omega) hp
        rw [mixS_ew T f (2 + j * 8 + i) (8 * j + i) (by omega) (by omega), mixS_ew _ f (2 + j2 * 8 + i2) (8 * j2 + i2) (by omega) (by omega)] at HL0
        have hI := Go.Lib.hid (prW_ge (pr := pr) (show T.wet (8 * j2 + i2) ≤ T.wet (8 * j + i) by omega))
        generalize ((T.wet (8 * j + i) - T.wet (8 * j2 + i2)) * pr).tdiv 16 = n at *
        have HL := Go.Lib.hid HL0
        clear HL0
        go_wp2_with (first
          | go_skip
          | ((with_reducible refine wlAt 44 rfl ?_); refine wpList_loadall rfl 130 (.tmp 4) rfl (w.heap.size + 1) rfl 4 (p4 i j i2 j2) 130 _ Tryd.underlying130 rfl size_prtP PR.out ?_)
          | (go_at_call 148; (refine (HF.out _ S.out SB.out).mono ?_); rintro o w1 ⟨rfl, hb⟩; replace S := Go.Lib.hid (row_next hb S.out); replace SB := Go.Lib.hid (row_next hb SB.out); replace PR := Go.Lib.hid (row_next hb PR.out); replace GB := Go.Lib.hid (grown_next GB.out hb); clear hb)
          | ((with_reducible refine wlOp (.store 111 (.tmp 13) (.tmp 47)) rfl ?_); have X := Go.Lib.hid (box_a w1 (.cells (vrow 2 (spAt 0 0)) 111) (.cells (vrow 2 (spAt 0 0)) 111)); have Y := Go.Lib.hid (box_b w1 (.cells (vrow 2 (spAt 0 0)) 111) (.cells (vrow 2 (spAt 0 0)) 111)); have hxl : w.heap.size + 2 ≤ w1.heap.size := (by have := row_lt PR.out; omega); replace S := Go.Lib.hid (box_o w1 (.cells (vrow 2 (spAt 0 0)) 111) (.cells (vrow 2 (spAt 0 0)) 111) S.out); replace SB := Go.Lib.hid (box_o w1 (.cells (vrow 2 (spAt 0 0)) 111) (.cells (vrow 2 (spAt 0 0)) 111) SB.out); replace PR := Go.Lib.hid (box_o w1 (.cells (vrow 2 (spAt 0 0)) 111) (.cells (vrow 2 (spAt 0 0)) 111) PR.out); replace GB := Go.Lib.hid (grown_alloc (grown_alloc GB.out (.cells (vrow 2 (spAt 0 0)) 111)) (.cells (vrow 2 (spAt 0 0)) 111)); obtain ⟨xb, hxb⟩ : ∃ z, w1.heap.size = z := ⟨_, rfl⟩; rw [hxb] at X Y hxl ⊢; obtain ⟨V2, hV2⟩ : ∃ z, (w1.alloc (.cells (vrow 2 (spAt 0 0)) 111)).alloc (.cells (vrow 2 (spAt 0 0)) 111) = z := ⟨_, rfl⟩; rw [hV2] at X Y S SB PR GB ⊢; clear hV2 hxb; refine wpList_storeall rfl 111 (.tmp 13) (.tmp 47) rfl xb rfl 2 (spAt 0 0) (spAt i j) rfl 111 size_spot X.out (fun i _ => spAt_one _ _ i) ?_; replace X := Go.Lib.hid (row_set X.out (vrow 2 (spAt i j))); replace Y := Go.Lib.hid (row_set' (g := xb) (by omega) Y.out (vrow 2 (spAt i j))); replace S := Go.Lib.hid (row_set' (g := xb) (by omega) S.out (vrow 2 (spAt i j))); replace SB := Go.Lib.hid (row_set' (g := xb) (by omega) SB.out (vrow 2 (spAt i j))); replace PR := Go.Lib.hid (row_set' (g := xb) (by omega) PR.out (vrow 2 (spAt i j))); replace GB := Go.Lib.hid (grown_new' GB.out (show w.heap.size ≤ xb by omega) (vrow 2 (spAt i j))))
          | ((with_reducible refine wlOp (.store 111 (.tmp 14) (.tmp 48)) rfl ?_); refine wpList_storeall rfl 111 (.tmp 14) (.tmp 48) rfl (xb + 1) rfl 2 (spAt 0 0) (spAt i2 j2) rfl 111 size_spot Y.out (fun i _ => spAt_one _ _ i) ?_; replace Y := Go.Lib.hid (row_set Y.out (vrow 2 (spAt i2 j2))); replace X := Go.Lib.hid (row_set' (g := xb + 1) (by omega) X.out (vrow 2 (spAt i2 j2))); replace S := Go.Lib.hid (row_set' (g := xb + 1) (by omega) S.out (vrow 2 (spAt i2 j2))); replace SB := Go.Lib.hid (row_set' (g := xb + 1) (by omega) SB.out (vrow 2 (spAt i2 j2))); replace PR := Go.Lib.hid (row_set' (g := xb + 1) (by omega) PR.out (vrow 2 (spAt i2 j2))); replace GB := Go.Lib.hid (grown_new' GB.out (show w.heap.size ≤ xb + 1 by omega) (vrow 2 (spAt i2 j2))))
          | fail)
        (try simp only [Act.put])
        refine region_qt 7 (by kernel_rfl) (by kernel_rfl) ?_
        intro W3 hW
        rw [hW] at S SB PR X Y GB
        clear hW
        simp only [List.take_succ_cons, List.take_zero, List.drop_succ_cons, List.drop_zero]
        have X' := Go.Lib.hid (cls_row' X.out); have Y' := Go.Lib.hid (cls_row' Y.out)
        (repeat (first
          | go_big_quiet_skip
          | (refine wpQuiet_loadmid 111 _ rfl (by first | exact want_n rfl | exact want_g _ _ _ rfl rfl rfl) xb 0 rfl 2 2 (spAt i j) _ rw_spot size_spot X'.out (by omega) ?_; simp only [Nat.zero_add]; simp only [Act.put, List.setIfInBounds_toArray, List.set_cons_succ, List.set_cons_zero])
          | (refine wpQuiet_loadmid 111 _ rfl (by first | exact want_n rfl | exact want_g _ _ _ rfl rfl rfl) (xb + 1) 0 rfl 2 2 (spAt i2 j2) _ rw_spot size_spot Y'.out (by omega) ?_; simp only [Nat.zero_add]; simp only [Act.put, List.setIfInBounds_toArray, List.set_cons_succ, List.set_cons_zero])
          | go_big_quiet_step ((go_at_call 146; exact cls_call _ (fun w hw => HC1.out _ _ w (row_next hw SB.out) (by assumption) (by assumption))))))
        refine wpQuiet_nil ?_
        intro W4 hb
        replace S := Go.Lib.hid (row_next hb S.out); replace SB := Go.Lib.hid (row_next hb SB.out); replace PR := Go.Lib.hid (row_next hb PR.out); replace X := Go.Lib.hid (row_next hb X.out); replace Y := Go.Lib.hid (row_next hb Y.out); replace GB := Go.Lib.hid (grown_next GB.out hb)
        clear hb X' Y'
        go_wp2_with (first
          | go_skip
          | (go_at_call 149; (refine (HL.out _ S.out).mono ?_); rintro o w5 ⟨rfl, wq, hb, rfl⟩; replace S := Go.Lib.hid (row_next hb S.out); replace GB := Go.Lib.hid (grown_next GB.out hb); clear hb; replace S := Go.Lib.hid (row_set S.out (vrow N (mixS ((T.ew (8 * j + i) (T.wet (8 * j + i) - n)).ew (8 * j2 + i2) (T.wet (8 * j2 + i2) + n)) f))); replace GB := Go.Lib.hid (grown_set GB.out (vrow N (mixS ((T.ew (8 * j + i) (T.wet (8 * j + i) - n)).ew (8 * j2 + i2) (T.wet (8 * j2 + i2) + n)) f)))))
        go_ret
        exact ⟨by rw [HU.out]; rfl, GB.out, by rw [HU.out]; dsimp only; rw [hI.out]; exact S.out⟩
end Go.Proofs.YtmcpaangofdmpaaDoor
namespace Go.Proofs.YtmcpaangofdmpaaDoor
open Go.RowKit
set_option maxRecDepth 100000
set_option linter.unusedVariables false
set_option linter.unusedSimpArgs false
theorem grown_tr' {A B C : World} {row : Option Nat} (h : A.grownBy B row) (g : B.grownBy C row) : A.grownBy C row :=
  ⟨g.os.trans h.os, g.tape.trans h.tape, g.output.trans h.output, Nat.le_trans h.size g.size, fun k hk hne => (g.block k (Nat.lt_of_lt_of_le hk h.size) hne).trans (h.block k hk hne)⟩
set_option maxRecDepth 100000 in
set_option maxHeartbeats 8000000 in
theorem press_any (s : Sh) (f : Nat → Value) (sb N : Nat) (ty : TypeId) (ax : Int) (d : Bool) (pr : Int) (L : List Sp8) (v : Value) (B : Nat) (w : World) (hN : 266 ≤ N) (hs : w.heap[sb]? = some (.cells (vrow N (mixS s f)) ty)) (hb0 : bdP s) (hp : 0 ≤ pr ∧ pr ≤ 16) (hin : inP ax d L) (hax : 1 ≤ ax ∧ ax ≤ 8) (hlen : L.length ≤ 64) (hO : PRO w v ax d L B) (hsB : sb < B) : Calls Tryd.prog 105 #[.pointer (some ⟨sb, 0, none⟩), v, .int .i8 pr] w fun e w' => e = .returned (.int .i64 (prL pr ax d s L).2) ∧ w.grownBy w' (some sb) ∧ w'.heap[sb]? = some (.cells (vrow N (mixS (prL pr ax d s L).1 f)) ty) := by
  obtain ⟨ao, cc, rfl, hr⟩ := hO
  have zp := zero_prtP
  have hbd := fun M : List Sp8 => prL_bd (ax := ax) (d := d) hb0 hp M.length M rfl
  have S0 := hs; have G0 := grown_refl w (some sb)
  clear hs
  go_enter Tryd.func105, Tryd.ntmps105
  go_wp2
  go_loopw [7, 12] (fun mv iv wr => ∃ k : Nat, k ≤ L.length ∧ iv = .int .i64 k ∧ mv = .int .i64 (prL pr ax d s (L.take k)).2 ∧ wr.heap[sb]? = some (.cells (vrow N (mixS (prL pr ax d s (L.take k)).1 f)) ty) ∧ w.grownBy wr (some sb)) (fun _ iv _ => L.length - (intOf iv).toNat)
  case atStart => exact ⟨0, by omega, rfl, rfl, S0, G0⟩
  case round =>
    clear S0 G0
    obtain ⟨k, hk, rfl, rfl, S, GB⟩ := hrel
    by_cases hlt : k < L.length
    · rcases hr with h0 | ⟨g, M, fr, rfl, hg, hM, hrow, hf4⟩
      · omega
      have Gr := Go.Lib.hid ((GB.block g (row_lt hrow) (by simp; omega)).trans hrow)
      obtain ⟨⟨⟨i, j⟩, hi8, hj8⟩, hpk⟩ : ∃ p, L[k]'hlt = p := ⟨_, rfl⟩
      have h4 := hf4 k hlt
      have hin1 := hin _ (List.getElem_mem hlt)
      have hap := prL_app pr ax d s (L.take k) ⟨(i, j), hi8, hj8⟩
      rw [← show L.take (k + 1) = L.take k ++ [⟨(i, j), hi8, hj8⟩] by rw [List.take_succ_eq_append_getElem hlt, hpk]] at hap
      rw [hpk] at h4 hin1
      obtain ⟨⟨⟨i2, j2⟩, hi2, hj2⟩, hsg⟩ : ∃ p, sgP ax d ⟨(i, j), hi8, hj8⟩ = p := ⟨_, rfl⟩
      rw [hsg] at hin1 hap
      have hne : 8 * j + i ≠ 8 * j2 + i2 := inP_ne (p := ⟨(i, j), hi8, hj8⟩) (q := ⟨(i2, j2), hi2, hj2⟩) hin1 hax
      simp only at hin1 h4
      rw [← hin1.1, ← hin1.2] at h4
      have hap2 : prL pr ax d s (L.take (k + 1)) = (prW pr (prC pr (prL pr ax d s (L.take k)).1 (24 * j + 3 * i) (24 * j2 + 3 * i2) (8 * j + i) (8 * j2 + i2) 3).1 (8 * j + i) (8 * j2 + i2), (prL pr ax d s (L.take k)).2 + (prC pr (prL pr ax d s (L.take k)).1 (24 * j + 3 * i) (24 * j2 + 3 * i2) (8 * j + i) (8 * j2 + i2) 3).2) := hap
      have bS := hbd (L.take k)
      have hb3 := (prC_bd (pr := pr) (p := 24 * j + 3 * i) (q := 24 * j2 + 3 * i2) (a := 8 * j + i) (b := 8 * j2 + i2) bS.1 hp 3 (by have : i < 8 := hi8; have : j < 8 := hj8; omega) (by have : i2 < 8 := hi2; have : j2 < 8 := hj2; omega)).2
      replace hi8 : i < 8 := hi8
      replace hj8 : j < 8 := hj8
      replace hi2 : i2 < 8 := hi2
      replace hj2 : j2 < 8 := hj2
      have H4 := Go.Lib.hid h4; have HAP := Go.Lib.hid hap2
      have hlk : (L.take k).length = k := by rw [List.length_take]; omega
      rw [hlk] at bS
      clear h4 hin1 hsg hpk hf4 hrow hap hap2 hbd hlk
      generalize prL pr ax d s (L.take k) = U at *
      obtain ⟨T, mv⟩ := U
      dsimp only at *
      have HPP := Go.Lib.hid fun W h => ppair_any T f sb N i j i2 j2 ty pr W hN h bS.1 hp hi8 hj8 hi2 hj2 hne
      generalize prC pr T (24 * j + 3 * i) (24 * j2 + 3 * i2) (8 * j + i) (8 * j2 + i2) 3 = R at *
      obtain ⟨T2, n⟩ := R
      dsimp only at *
      generalize prW pr T2 (8 * j + i) (8 * j2 + i2) = T3 at *
      have hwm : IntKind.i64.wrap (mv + n) = mv + n := IntWalk.i64_in _ (by omega)
      replace S := Go.Lib.hid S; replace GB := Go.Lib.hid GB
      have hkI : (k : Int) < (L.length : Int) := by omega
      have hk0 : (0 : Int) ≤ (k : Int) := by omega
      have hkd : decide ((k : Int) < (L.length : Int)) = true := by simpa using hkI
      go_wp2_with (first
        | go_skip
        | ((with_reducible refine wlAt 15 rfl ?_); refine wpList_loadmid rfl 130 (.tmp 14) rfl g (k * 4) rfl M 4 fr 130 _ Tryd.underlying130 rfl size_prtP Gr.out (by omega) ?_; rw [H4.out])
        | ((with_reducible refine wlOp (.store 130 (.tmp 9) (.tmp 15)) rfl ?_); refine wpList_storeall rfl 130 (.tmp 9) (.tmp 15) rfl _ rfl 4 (p4 0 0 0 0) (p4 i j i2 j2) rfl 130 size_prtP (heap_at _ _ _ rfl) (fun i _ => p4_one _ _ _ _ i) ?_; rw [setRow_at _ _ _ _ _ rfl]; have R := Go.Lib.hid (heap_at wr (.cells (vrow 4 (p4 i j i2 j2)) 130) _ rfl); replace S := Go.Lib.hid (heap_past wr (.cells (vrow 4 (p4 i j i2 j2)) 130) _ _ (row_lt S.out) S.out); replace GB := Go.Lib.hid (grown_alloc GB.out (.cells (vrow 4 (p4 i j i2 j2)) 130)); clear Gr; generalize World.alloc wr _ = V at S R GB ⊢)
        | ((with_reducible refine wlAt 18 rfl ?_); refine wpList_loadall rfl 130 (.tmp 9) rfl wr.heap.size rfl 4 (p4 i j i2 j2) 130 _ Tryd.underlying130 rfl size_prtP R.out ?_)
        | (go_at_call 133; (refine (HPP.out _ S.out).mono ?_); rintro o w1 ⟨rfl, hg1, hS1⟩; replace S := Go.Lib.hid hS1; replace GB := Go.Lib.hid (grown_tr' GB.out hg1); clear hg1 hS1 R))
      go_roundw
      case rel => exact ⟨k + 1, by omega, by go_num, by rw [HAP.out], by rw [HAP.out]; exact S.out, GB.out⟩
      case measure => simp [intOf]; omega
    · obtain rfl : k = L.length := by omega
      have hkd : decide ((L.length : Int) < (L.length : Int)) = false := by simp
      rw [List.take_length] at *
      replace S := Go.Lib.hid S; replace GB := Go.Lib.hid GB
      go_wp2
      go_ret
      exact ⟨rfl, GB.out, S.out⟩
end Go.Proofs.YtmcpaangofdmpaaDoor
