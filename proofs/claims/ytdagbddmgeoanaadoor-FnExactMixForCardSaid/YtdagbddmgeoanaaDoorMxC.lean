import Derived.Test.YtdagbddmgeoanaaDoorMxN
import Derived.Test.YtdagbddmgeoanaaDoorCodeOf
namespace Go.Proofs.YtdagbddmgeoanaaDoor
open Go.RowKit
set_option maxRecDepth 100000
set_option linter.unusedVariables false
set_option linter.unusedSimpArgs false
def mnV (g : Nat → Int) : Nat → Int
  | 0 => g 0
  | k + 1 => if k = 0 then g 0 else min (mnV g k) (g k)
set_option maxHeartbeats 4000000 in
theorem mnV_any (g : Nat → Int) (D : Nat) (w : World) (hd : w.heap[D]? = some (.cells (vrow 3 (i3 g)) 22)) : Calls Tryd.prog 14 #[.slice (some ⟨D, 0, none⟩) 3 3] w fun e w' => e = .returned (.int .i64 (mnV g 3)) ∧ Below w.heap.size w w' := by
  have R := Go.Lib.hid hd; have hB := Go.Lib.hid (Below.refl w.heap.size w)
  clear hd
  have F0 := Go.Lib.hid (i3_at g 0)
  go_enter Tryd.func14, Tryd.ntmps14
  go_wp2_with (first
    | go_skip
    | ((with_reducible refine wlAt 11 rfl ?_); refine wpList_ld1 2 _ rfl (by first | exact want_n rfl | exact want_g _ _ _ rfl rfl rfl) D _ rfl 3 (i3 g) _ rw_i64M R.out (by omega) ?_; rw [i3_at]))
  have R0 := R.out; have B0 := hB.out
  clear R hB
  go_loopw [3, 4] (fun mv iv wr => ∃ k : Nat, 1 ≤ k ∧ k ≤ 3 ∧ iv = .int .i64 k ∧ mv = .int .i64 (mnV g k) ∧ wr.heap[D]? = some (.cells (vrow 3 (i3 g)) 22) ∧ Below w.heap.size w wr) (fun _ iv _ => 3 - (intOf iv).toNat)
  case atStart => exact ⟨1, by omega, by omega, rfl, by simp [mnV], R0, B0⟩
  case round =>
    clear R0 B0
    obtain ⟨k, hk1, hk, rfl, rfl, R, hB⟩ := hrel
    replace R := Go.Lib.hid R; replace hB := Go.Lib.hid hB
    by_cases hlt : k < 3
    · have hkI : (k : Int) < 3 := by omega
      have hk0 : (0 : Int) ≤ (k : Int) := by omega
      have hkd : decide ((k : Int) < 3) = true := by simpa using hkI
      have hst := Go.Lib.hid (show mnV g (k + 1) = min (mnV g k) (g k) by rw [mnV, if_neg (by omega)])
      have FK := Go.Lib.hid (i3_at g k)
      generalize mnV g k = mv at *
      generalize g k = gk at *
      go_wp2_with (first
        | go_skip
        | ((with_reducible refine wlAt 22 rfl ?_); refine wpList_ld1 2 _ rfl (by first | exact want_n rfl | exact want_g _ _ _ rfl rfl rfl) D _ rfl 3 (i3 g) _ rw_i64M R.out (by omega) ?_; simp only [Nat.zero_add, Nat.mul_one]; rw [FK.out]))
      go_roundw
      case rel => exact ⟨k + 1, by omega, by omega, by go_num, by rw [hst.out]; congr 1; split <;> omega, R.out, hB.out⟩
      case measure => simp [intOf]; omega
    · obtain rfl : k = 3 := by omega
      have hkd : decide (((3 : Nat) : Int) < 3) = false := by simp
      go_wp2
      go_ret
      exact ⟨rfl, hB.out⟩
def mxV (g : Nat → Int) : Nat → Int
  | 0 => g 0
  | k + 1 => if k = 0 then g 0 else max (mxV g k) (g k)
set_option maxHeartbeats 4000000 in
theorem mxV_any (g : Nat → Int) (D : Nat) (w : World) (hd : w.heap[D]? = some (.cells (vrow 3 (i3 g)) 22)) : Calls Tryd.prog 15 #[.slice (some ⟨D, 0, none⟩) 3 3] w fun e w' => e = .returned (.int .i64 (mxV g 3)) ∧ Below w.heap.size w w' := by
  have R := Go.Lib.hid hd; have hB := Go.Lib.hid (Below.refl w.heap.size w)
  clear hd
  have F0 := Go.Lib.hid (i3_at g 0)
  go_enter Tryd.func15, Tryd.ntmps15
  go_wp2_with (first
    | go_skip
    | ((with_reducible refine wlAt 11 rfl ?_); refine wpList_ld1 2 _ rfl (by first | exact want_n rfl | exact want_g _ _ _ rfl rfl rfl) D _ rfl 3 (i3 g) _ rw_i64M R.out (by omega) ?_; rw [i3_at]))
  have R0 := R.out; have B0 := hB.out
  clear R hB
  go_loopw [3, 4] (fun mv iv wr => ∃ k : Nat, 1 ≤ k ∧ k ≤ 3 ∧ iv = .int .i64 k ∧ mv = .int .i64 (mxV g k) ∧ wr.heap[D]? = some (.cells (vrow 3 (i3 g)) 22) ∧ Below w.heap.size w wr) (fun _ iv _ => 3 - (intOf iv).toNat)
  case atStart => exact ⟨1, by omega, by omega, rfl, by simp [mxV], R0, B0⟩
  case round =>
    clear R0 B0
    obtain ⟨k, hk1, hk, rfl, rfl, R, hB⟩ := hrel
    replace R := Go.Lib.hid R; replace hB := Go.Lib.hid hB
    by_cases hlt : k < 3
    · have hkI : (k : Int) < 3 := by omega
      have hk0 : (0 : Int) ≤ (k : Int) := by omega
      have hkd : decide ((k : Int) < 3) = true := by simpa using hkI
      have hst := Go.Lib.hid (show mxV g (k + 1) = max (mxV g k) (g k) by rw [mxV, if_neg (by omega)])
      have FK := Go.Lib.hid (i3_at g k)
      generalize mxV g k = mv at *
      generalize g k = gk at *
      go_wp2_with (first
        | go_skip
        | ((with_reducible refine wlAt 22 rfl ?_); refine wpList_ld1 2 _ rfl (by first | exact want_n rfl | exact want_g _ _ _ rfl rfl rfl) D _ rfl 3 (i3 g) _ rw_i64M R.out (by omega) ?_; simp only [Nat.zero_add, Nat.mul_one]; rw [FK.out]))
      go_roundw
      case rel => exact ⟨k + 1, by omega, by omega, by go_num, by rw [hst.out]; congr 1; split <;> omega, R.out, hB.out⟩
      case measure => simp [intOf]; omega
    · obtain rfl : k = 3 := by omega
      have hkd : decide (((3 : Nat) : Int) < 3) = false := by simp
      go_wp2
      go_ret
      exact ⟨rfl, hB.out⟩
set_option maxHeartbeats 4000000 in
theorem ckM_1 (v : Nat → Int) (P : Int) (e : ErrE) (w : World) (hE : Errs e w) (h1 : P < 1) : Calls Tryd.prog 10 #[.agg (vrow 3 (i3 v)), .int .i64 P] w fun o w' => o = .returned (errP e 2) ∧ Below w.heap.size w w' := by
  have HN := Go.Lib.hid fun D w h => mnV_any v D w h
  have HX := Go.Lib.hid fun D w h => mxV_any v D w h
  have d1 : decide (P < 1) = true := by simp; omega
  generalize mnV v 3 = mn at *
  generalize mxV v 3 = mx at *
  have X : Hid ((w.alloc (.cells (vrow 3 (i3 v)) 22)).heap[w.heap.size]? = some (.cells (vrow 3 (i3 v)) 22)) := (heap_at _ _ _ (by simp))
  have hB : Hid (Below w.heap.size w (w.alloc (.cells (vrow 3 (i3 v)) 22))) := Go.Lib.hid ((Below.refl w.heap.size w).alloc (by simp <;> omega) _)
  have E : Hid (Errs e (w.alloc (.cells (vrow 3 (i3 v)) 22))) := Go.Lib.hid (hE.alloc _)
  go_enter Tryd.func10, Tryd.ntmps10
  go_wp2_with (first
    | go_skip
    | (go_at_call 14; (refine (HN.out _ _ X.out).mono ?_); rintro o w1 ⟨rfl, hb⟩; replace X := Go.Lib.hid (row_next hb X.out); replace hB := Go.Lib.hid (below_next hB.out hb); replace E := Go.Lib.hid (E.out.next hb); clear hb)
    | (go_at_call 15; (refine (HX.out _ _ X.out).mono ?_); rintro o w1 ⟨rfl, hb⟩; replace X := Go.Lib.hid (row_next hb X.out); replace hB := Go.Lib.hid (below_next hB.out hb); replace E := Go.Lib.hid (E.out.next hb); clear hb)
    | ((with_reducible refine wlOp (.load 31 (.global 0)) rfl ?_); refine wpList_ld1 31 _ rfl (by first | exact want_n rfl | exact want_g _ _ _ rfl rfl rfl) 0 0 rfl 1 (fun _ => errP e 2) _ rw_err E.out.v2 (by omega) ?_)
    | fail)
  go_ret
  exact ⟨rfl, hB.out⟩
set_option maxHeartbeats 4000000 in
theorem ckM_2 (v : Nat → Int) (P : Int) (e : ErrE) (w : World) (hE : Errs e w) (h1 : 1 ≤ P) (h2 : 30 < P) : Calls Tryd.prog 10 #[.agg (vrow 3 (i3 v)), .int .i64 P] w fun o w' => o = .returned (errP e 2) ∧ Below w.heap.size w w' := by
  have HN := Go.Lib.hid fun D w h => mnV_any v D w h
  have HX := Go.Lib.hid fun D w h => mxV_any v D w h
  have d1 : decide (P < 1) = false := by simp; omega
  have d2 : decide (30 < P) = true := by simp; omega
  generalize mnV v 3 = mn at *
  generalize mxV v 3 = mx at *
  have X : Hid ((w.alloc (.cells (vrow 3 (i3 v)) 22)).heap[w.heap.size]? = some (.cells (vrow 3 (i3 v)) 22)) := (heap_at _ _ _ (by simp))
  have hB : Hid (Below w.heap.size w (w.alloc (.cells (vrow 3 (i3 v)) 22))) := Go.Lib.hid ((Below.refl w.heap.size w).alloc (by simp <;> omega) _)
  have E : Hid (Errs e (w.alloc (.cells (vrow 3 (i3 v)) 22))) := Go.Lib.hid (hE.alloc _)
  go_enter Tryd.func10, Tryd.ntmps10
  go_wp2_with (first
    | go_skip
    | (go_at_call 14; (refine (HN.out _ _ X.out).mono ?_); rintro o w1 ⟨rfl, hb⟩; replace X := Go.Lib.hid (row_next hb X.out); replace hB := Go.Lib.hid (below_next hB.out hb); replace E := Go.Lib.hid (E.out.next hb); clear hb)
    | (go_at_call 15; (refine (HX.out _ _ X.out).mono ?_); rintro o w1 ⟨rfl, hb⟩; replace X := Go.Lib.hid (row_next hb X.out); replace hB := Go.Lib.hid (below_next hB.out hb); replace E := Go.Lib.hid (E.out.next hb); clear hb)
    | ((with_reducible refine wlOp (.load 31 (.global 0)) rfl ?_); refine wpList_ld1 31 _ rfl (by first | exact want_n rfl | exact want_g _ _ _ rfl rfl rfl) 0 0 rfl 1 (fun _ => errP e 2) _ rw_err E.out.v2 (by omega) ?_)
    | fail)
  go_ret
  exact ⟨rfl, hB.out⟩
set_option maxHeartbeats 4000000 in
theorem ckM_3 (v : Nat → Int) (P : Int) (e : ErrE) (w : World) (hE : Errs e w) (h1 : 1 ≤ P) (h2 : P ≤ 30) (h3 : mnV v 3 < 0) : Calls Tryd.prog 10 #[.agg (vrow 3 (i3 v)), .int .i64 P] w fun o w' => o = .returned (errP e 2) ∧ Below w.heap.size w w' := by
  have HN := Go.Lib.hid fun D w h => mnV_any v D w h
  have HX := Go.Lib.hid fun D w h => mxV_any v D w h
  have d1 : decide (P < 1) = false := by simp; omega
  have d2 : decide (30 < P) = false := by simp; omega
  have d3 : decide (mnV v 3 < 0) = true := by simp; omega
  generalize mnV v 3 = mn at *
  generalize mxV v 3 = mx at *
  have X : Hid ((w.alloc (.cells (vrow 3 (i3 v)) 22)).heap[w.heap.size]? = some (.cells (vrow 3 (i3 v)) 22)) := (heap_at _ _ _ (by simp))
  have hB : Hid (Below w.heap.size w (w.alloc (.cells (vrow 3 (i3 v)) 22))) := Go.Lib.hid ((Below.refl w.heap.size w).alloc (by simp <;> omega) _)
  have E : Hid (Errs e (w.alloc (.cells (vrow 3 (i3 v)) 22))) := Go.Lib.hid (hE.alloc _)
  go_enter Tryd.func10, Tryd.ntmps10
  go_wp2_with (first
    | go_skip
    | (go_at_call 14; (refine (HN.out _ _ X.out).mono ?_); rintro o w1 ⟨rfl, hb⟩; replace X := Go.Lib.hid (row_next hb X.out); replace hB := Go.Lib.hid (below_next hB.out hb); replace E := Go.Lib.hid (E.out.next hb); clear hb)
    | (go_at_call 15; (refine (HX.out _ _ X.out).mono ?_); rintro o w1 ⟨rfl, hb⟩; replace X := Go.Lib.hid (row_next hb X.out); replace hB := Go.Lib.hid (below_next hB.out hb); replace E := Go.Lib.hid (E.out.next hb); clear hb)
    | ((with_reducible refine wlOp (.load 31 (.global 0)) rfl ?_); refine wpList_ld1 31 _ rfl (by first | exact want_n rfl | exact want_g _ _ _ rfl rfl rfl) 0 0 rfl 1 (fun _ => errP e 2) _ rw_err E.out.v2 (by omega) ?_)
    | fail)
  go_ret
  exact ⟨rfl, hB.out⟩
set_option maxHeartbeats 4000000 in
theorem ckM_4 (v : Nat → Int) (P : Int) (e : ErrE) (w : World) (hE : Errs e w) (h1 : 1 ≤ P) (h2 : P ≤ 30) (h3 : 0 ≤ mnV v 3) (h4 : 1000 < mxV v 3) : Calls Tryd.prog 10 #[.agg (vrow 3 (i3 v)), .int .i64 P] w fun o w' => o = .returned (errP e 2) ∧ Below w.heap.size w w' := by
  have HN := Go.Lib.hid fun D w h => mnV_any v D w h
  have HX := Go.Lib.hid fun D w h => mxV_any v D w h
  have d1 : decide (P < 1) = false := by simp; omega
  have d2 : decide (30 < P) = false := by simp; omega
  have d3 : decide (mnV v 3 < 0) = false := by simp; omega
  have d4 : decide (1000 < mxV v 3) = true := by simp; omega
  generalize mnV v 3 = mn at *
  generalize mxV v 3 = mx at *
  have X : Hid ((w.alloc (.cells (vrow 3 (i3 v)) 22)).heap[w.heap.size]? = some (.cells (vrow 3 (i3 v)) 22)) := (heap_at _ _ _ (by simp))
  have hB : Hid (Below w.heap.size w (w.alloc (.cells (vrow 3 (i3 v)) 22))) := Go.Lib.hid ((Below.refl w.heap.size w).alloc (by simp <;> omega) _)
  have E : Hid (Errs e (w.alloc (.cells (vrow 3 (i3 v)) 22))) := Go.Lib.hid (hE.alloc _)
  go_enter Tryd.func10, Tryd.ntmps10
  go_wp2_with (first
    | go_skip
    | (go_at_call 14; (refine (HN.out _ _ X.out).mono ?_); rintro o w1 ⟨rfl, hb⟩; replace X := Go.Lib.hid (row_next hb X.out); replace hB := Go.Lib.hid (below_next hB.out hb); replace E := Go.Lib.hid (E.out.next hb); clear hb)
    | (go_at_call 15; (refine (HX.out _ _ X.out).mono ?_); rintro o w1 ⟨rfl, hb⟩; replace X := Go.Lib.hid (row_next hb X.out); replace hB := Go.Lib.hid (below_next hB.out hb); replace E := Go.Lib.hid (E.out.next hb); clear hb)
    | ((with_reducible refine wlOp (.load 31 (.global 0)) rfl ?_); refine wpList_ld1 31 _ rfl (by first | exact want_n rfl | exact want_g _ _ _ rfl rfl rfl) 0 0 rfl 1 (fun _ => errP e 2) _ rw_err E.out.v2 (by omega) ?_)
    | fail)
  go_ret
  exact ⟨rfl, hB.out⟩
set_option maxHeartbeats 4000000 in
theorem ckM_state (v : Nat → Int) (P : Int) (e : ErrE) (w : World) (hE : Errs e w) (h1 : 1 ≤ P) (h2 : P ≤ 30) (h3 : 0 ≤ mnV v 3) (h4 : mxV v 3 ≤ 1000) (h5 : mxV v 3 = 0) : Calls Tryd.prog 10 #[.agg (vrow 3 (i3 v)), .int .i64 P] w fun o w' => o = .returned (errP e 4) ∧ Below w.heap.size w w' := by
  have HN := Go.Lib.hid fun D w h => mnV_any v D w h
  have HX := Go.Lib.hid fun D w h => mxV_any v D w h
  have d1 : decide (P < 1) = false := by simp; omega
  have d2 : decide (30 < P) = false := by simp; omega
  have d3 : decide (mnV v 3 < 0) = false := by simp; omega
  have d4 : decide (1000 < mxV v 3) = false := by simp; omega
  have d5 : (mxV v 3 == 0) = true := by simpa using h5
  clear h5
  generalize mnV v 3 = mn at *
  generalize mxV v 3 = mx at *
  have X : Hid ((w.alloc (.cells (vrow 3 (i3 v)) 22)).heap[w.heap.size]? = some (.cells (vrow 3 (i3 v)) 22)) := (heap_at _ _ _ (by simp))
  have hB : Hid (Below w.heap.size w (w.alloc (.cells (vrow 3 (i3 v)) 22))) := Go.Lib.hid ((Below.refl w.heap.size w).alloc (by simp <;> omega) _)
  have E : Hid (Errs e (w.alloc (.cells (vrow 3 (i3 v)) 22))) := Go.Lib.hid (hE.alloc _)
  go_enter Tryd.func10, Tryd.ntmps10
  go_wp2_with (first
    | go_skip
    | (go_at_call 14; (refine (HN.out _ _ X.out).mono ?_); rintro o w1 ⟨rfl, hb⟩; replace X := Go.Lib.hid (row_next hb X.out); replace hB := Go.Lib.hid (below_next hB.out hb); replace E := Go.Lib.hid (E.out.next hb); clear hb)
    | (go_at_call 15; (refine (HX.out _ _ X.out).mono ?_); rintro o w1 ⟨rfl, hb⟩; replace X := Go.Lib.hid (row_next hb X.out); replace hB := Go.Lib.hid (below_next hB.out hb); replace E := Go.Lib.hid (E.out.next hb); clear hb)
    | ((with_reducible refine wlOp (.load 31 (.global 1)) rfl ?_); refine wpList_ld1 31 _ rfl (by first | exact want_n rfl | exact want_g _ _ _ rfl rfl rfl) 1 0 rfl 1 (fun _ => errP e 4) _ rw_err E.out.v4 (by omega) ?_)
    | fail)
  go_ret
  exact ⟨rfl, hB.out⟩
set_option maxHeartbeats 4000000 in
theorem ckM_ok (v : Nat → Int) (P : Int) (e : ErrE) (w : World) (hE : Errs e w) (h1 : 1 ≤ P) (h2 : P ≤ 30) (h3 : 0 ≤ mnV v 3) (h4 : mxV v 3 ≤ 1000) (h5 : mxV v 3 ≠ 0) : Calls Tryd.prog 10 #[.agg (vrow 3 (i3 v)), .int .i64 P] w fun o w' => o = .returned (.nilIface) ∧ Below w.heap.size w w' := by
  have HN := Go.Lib.hid fun D w h => mnV_any v D w h
  have HX := Go.Lib.hid fun D w h => mxV_any v D w h
  have d1 : decide (P < 1) = false := by simp; omega
  have d2 : decide (30 < P) = false := by simp; omega
  have d3 : decide (mnV v 3 < 0) = false := by simp; omega
  have d4 : decide (1000 < mxV v 3) = false := by simp; omega
  have d5 : (mxV v 3 == 0) = false := by simpa using h5
  generalize mnV v 3 = mn at *
  generalize mxV v 3 = mx at *
  have X : Hid ((w.alloc (.cells (vrow 3 (i3 v)) 22)).heap[w.heap.size]? = some (.cells (vrow 3 (i3 v)) 22)) := (heap_at _ _ _ (by simp))
  have hB : Hid (Below w.heap.size w (w.alloc (.cells (vrow 3 (i3 v)) 22))) := Go.Lib.hid ((Below.refl w.heap.size w).alloc (by simp <;> omega) _)
  have E : Hid (Errs e (w.alloc (.cells (vrow 3 (i3 v)) 22))) := Go.Lib.hid (hE.alloc _)
  go_enter Tryd.func10, Tryd.ntmps10
  go_wp2_with (first
    | go_skip
    | (go_at_call 14; (refine (HN.out _ _ X.out).mono ?_); rintro o w1 ⟨rfl, hb⟩; replace X := Go.Lib.hid (row_next hb X.out); replace hB := Go.Lib.hid (below_next hB.out hb); replace E := Go.Lib.hid (E.out.next hb); clear hb)
    | (go_at_call 15; (refine (HX.out _ _ X.out).mono ?_); rintro o w1 ⟨rfl, hb⟩; replace X := Go.Lib.hid (row_next hb X.out); replace hB := Go.Lib.hid (below_next hB.out hb); replace E := Go.Lib.hid (E.out.next hb); clear hb)
    | fail)
  go_ret
  exact ⟨rfl, hB.out⟩
theorem ckM_range (v : Nat → Int) (P : Int) (e : ErrE) (w : World) (hE : Errs e w) (h : P < 1 ∨ 30 < P ∨ mnV v 3 < 0 ∨ 1000 < mxV v 3) : Calls Tryd.prog 10 #[.agg (vrow 3 (i3 v)), .int .i64 P] w fun o w' => o = .returned (errP e 2) ∧ Below w.heap.size w w' := by
  by_cases h1 : P < 1
  · exact ckM_1 v P e w hE h1
  by_cases h2 : 30 < P
  · exact ckM_2 v P e w hE (by omega) h2
  by_cases h3 : mnV v 3 < 0
  · exact ckM_3 v P e w hE (by omega) (by omega) h3
  · exact ckM_4 v P e w hE (by omega) (by omega) (by omega) (by omega)
set_option maxHeartbeats 4000000 in
theorem implM_err (v : Nat → Int) (P : Int) (k : Nat) (e : ErrE) (w : World) (hE : Errs e w) (HC0 : ∀ W, Errs e W → Calls Tryd.prog 10 #[.agg (vrow 3 (i3 v)), .int .i64 P] W fun o w' => o = .returned (errP e k) ∧ Below W.heap.size W w') (HD0 : ∀ W, Errs e W → Calls Tryd.prog 11 #[errP e k] W fun o w' => o = .returned (.int .i64 k) ∧ Below W.heap.size W w') : Calls Tryd.prog 6 #[.agg (vrow 3 (i3 v)), .int .i64 P] w fun o w' => o = .returned (.tuple #[.agg (vrow 3 fun _ => .int .i64 0), .int .i64 0, .int .i64 k]) ∧ Below w.heap.size w w' := by
  have HC := Go.Lib.hid HC0; have HD := Go.Lib.hid HD0
  clear HC0 HD0
  have zz := zero_i3
  have X : Hid (((w.alloc (.cells (vrow 3 (i3 v)) 22)).alloc (.cells (vrow 3 fun _ => .int .i64 0) 22)).heap[w.heap.size]? = some (.cells (vrow 3 (i3 v)) 22)) := (heap_past _ _ _ _ (by simp <;> omega) (heap_at _ _ _ (by simp)))
  have Z : Hid (((w.alloc (.cells (vrow 3 (i3 v)) 22)).alloc (.cells (vrow 3 fun _ => .int .i64 0) 22)).heap[w.heap.size + 1]? = some (.cells (vrow 3 fun _ => .int .i64 0) 22)) := (heap_at _ _ _ (by simp))
  have hB : Hid (Below w.heap.size w ((w.alloc (.cells (vrow 3 (i3 v)) 22)).alloc (.cells (vrow 3 fun _ => .int .i64 0) 22))) := Go.Lib.hid (((Below.refl w.heap.size w).alloc (by simp <;> omega) _).alloc (by simp <;> omega) _)
  have E : Hid (Errs e ((w.alloc (.cells (vrow 3 (i3 v)) 22)).alloc (.cells (vrow 3 fun _ => .int .i64 0) 22))) := Go.Lib.hid ((hE.alloc _).alloc _)
  go_enter Tryd.func6, Tryd.ntmps6
  go_wp2_with (first
    | go_skip
    | ((with_reducible refine wlAt 10 rfl ?_); refine wpList_loadall rfl 22 (.tmp 2) rfl w.heap.size rfl 3 (i3 v) 22 _ Tryd.underlying22 rfl size_i3 X.out ?_)
    | (go_at_call 10; (refine (HC.out _ E.out).mono ?_); rintro o w1 ⟨rfl, hb⟩; replace X := Go.Lib.hid (row_next hb X.out); replace Z := Go.Lib.hid (row_next hb Z.out); replace hB := Go.Lib.hid (below_next hB.out hb); replace E := Go.Lib.hid (E.out.next hb); clear hb)
    | ((with_reducible refine wlAt 15 rfl ?_); refine wpList_built rfl 22 [] rfl [] (by rfl) _ built_zi3 ?_)
    | (go_at_call 11; (refine (HD.out _ E.out).mono ?_); rintro o w2 ⟨rfl, hb⟩; replace X := Go.Lib.hid (row_next hb X.out); replace Z := Go.Lib.hid (row_next hb Z.out); replace hB := Go.Lib.hid (below_next hB.out hb); replace E := Go.Lib.hid (E.out.next hb); clear hb)
    | ((with_reducible refine wlOp (.store 22 (.tmp 4) (.tmp 15)) rfl ?_); refine wpList_storeall rfl 22 (.tmp 4) (.tmp 15) rfl (w.heap.size + 1) rfl 3 (fun _ => .int .i64 0) (fun _ => .int .i64 0) rfl 22 size_i3 Z.out (fun i _ => rfl) ?_; replace Z := Go.Lib.hid (row_set Z.out (vrow 3 fun _ => .int .i64 0)); replace hB := Go.Lib.hid (Below_setRow hB.out (show w.heap.size ≤ w.heap.size + 1 by omega) (vrow 3 fun _ => .int .i64 0))))
  exact ret_row3 Tryd.results6 (w.heap.size + 1) 3 (fun _ => .int .i64 0) 22 _ Tryd.underlying22 rfl size_i3 _ _ rfl rfl rfl rfl Z.out ⟨rfl, hB.out⟩
set_option maxHeartbeats 4000000 in
theorem implM_ok (v : Nat → Int) (P : Int) (m : Nat → Int) (x : Int) (e : ErrE) (w : World) (hE : Errs e w) (HC0 : ∀ W, Errs e W → Calls Tryd.prog 10 #[.agg (vrow 3 (i3 v)), .int .i64 P] W fun o w' => o = .returned .nilIface ∧ Below W.heap.size W w') (HN0 : ∀ W, Calls Tryd.prog 12 #[.agg (vrow 3 (i3 v)), .int .i64 P] W fun o w' => o = .returned (.tuple #[.agg (vrow 3 (i3 m)), .int .i64 x]) ∧ Below W.heap.size W w') : Calls Tryd.prog 6 #[.agg (vrow 3 (i3 v)), .int .i64 P] w fun o w' => o = .returned (.tuple #[.agg (vrow 3 (i3 m)), .int .i64 x, .int .i64 0]) ∧ Below w.heap.size w w' := by
  have HC := Go.Lib.hid HC0; have HN := Go.Lib.hid HN0
  clear HC0 HN0
  have zz := zero_i3
  have X : Hid (((w.alloc (.cells (vrow 3 (i3 v)) 22)).alloc (.cells (vrow 3 fun _ => .int .i64 0) 22)).heap[w.heap.size]? = some (.cells (vrow 3 (i3 v)) 22)) := (heap_past _ _ _ _ (by simp <;> omega) (heap_at _ _ _ (by simp)))
  have Z : Hid (((w.alloc (.cells (vrow 3 (i3 v)) 22)).alloc (.cells (vrow 3 fun _ => .int .i64 0) 22)).heap[w.heap.size + 1]? = some (.cells (vrow 3 fun _ => .int .i64 0) 22)) := (heap_at _ _ _ (by simp))
  have hB : Hid (Below w.heap.size w ((w.alloc (.cells (vrow 3 (i3 v)) 22)).alloc (.cells (vrow 3 fun _ => .int .i64 0) 22))) := Go.Lib.hid (((Below.refl w.heap.size w).alloc (by simp <;> omega) _).alloc (by simp <;> omega) _)
  have E : Hid (Errs e ((w.alloc (.cells (vrow 3 (i3 v)) 22)).alloc (.cells (vrow 3 fun _ => .int .i64 0) 22))) := Go.Lib.hid ((hE.alloc _).alloc _)
  go_enter Tryd.func6, Tryd.ntmps6
  go_wp2_with (first
    | go_skip
    | ((with_reducible refine wlAt 10 rfl ?_); refine wpList_loadall rfl 22 (.tmp 2) rfl w.heap.size rfl 3 (i3 v) 22 _ Tryd.underlying22 rfl size_i3 X.out ?_)
    | ((with_reducible refine wlAt 19 rfl ?_); refine wpList_loadall rfl 22 (.tmp 2) rfl w.heap.size rfl 3 (i3 v) 22 _ Tryd.underlying22 rfl size_i3 X.out ?_)
    | (go_at_call 10; (refine (HC.out _ E.out).mono ?_); rintro o w1 ⟨rfl, hb⟩; replace X := Go.Lib.hid (row_next hb X.out); replace Z := Go.Lib.hid (row_next hb Z.out); replace hB := Go.Lib.hid (below_next hB.out hb); replace E := Go.Lib.hid (E.out.next hb); clear hb)
    | (go_at_call 12; (refine (HN.out _).mono ?_); rintro o w2 ⟨rfl, hb⟩; replace X := Go.Lib.hid (row_next hb X.out); replace Z := Go.Lib.hid (row_next hb Z.out); replace hB := Go.Lib.hid (below_next hB.out hb); replace E := Go.Lib.hid (E.out.next hb); clear hb)
    | ((with_reducible refine wlOp (.store 22 (.tmp 8) (.tmp 22)) rfl ?_); refine wpList_storeall rfl 22 (.tmp 8) (.tmp 22) rfl _ rfl 3 (fun _ => .int .i64 0) (i3 m) rfl 22 size_i3 (heap_at _ _ _ rfl) (fun i _ => i3_one _ i) ?_; rw [setRow_at _ _ _ _ _ rfl]; have V := Go.Lib.hid (heap_at w2 (.cells (vrow 3 (i3 m)) 22) _ rfl); have qz := row_lt Z.out; replace Z := Go.Lib.hid (heap_past w2 (.cells (vrow 3 (i3 m)) 22) _ _ qz Z.out); replace hB := Go.Lib.hid (hB.out.alloc hB.out.size (.cells (vrow 3 (i3 m)) 22)); obtain ⟨vb, hvb⟩ : ∃ z, w2.heap.size = z := ⟨_, rfl⟩; rw [hvb] at V ⊢; clear X E; generalize World.alloc w2 _ = W3 at Z V hB ⊢; clear hvb qz)
    | ((with_reducible refine wlAt 24 rfl ?_); refine wpList_loadall rfl 22 (.tmp 8) rfl vb rfl 3 (i3 m) 22 _ Tryd.underlying22 rfl size_i3 V.out ?_)
    | ((with_reducible refine wlOp (.store 22 (.tmp 4) (.tmp 24)) rfl ?_); refine wpList_storeall rfl 22 (.tmp 4) (.tmp 24) rfl (w.heap.size + 1) rfl 3 (fun _ => .int .i64 0) (i3 m) rfl 22 size_i3 Z.out (fun i _ => i3_one _ i) ?_; replace Z := Go.Lib.hid (row_set Z.out (vrow 3 (i3 m))); replace hB := Go.Lib.hid (Below_setRow hB.out (show w.heap.size ≤ w.heap.size + 1 by omega) (vrow 3 (i3 m)))))
  exact ret_row3 Tryd.results6 (w.heap.size + 1) 3 (i3 m) 22 _ Tryd.underlying22 rfl size_i3 _ _ rfl rfl rfl rfl Z.out ⟨rfl, hB.out⟩
end Go.Proofs.YtdagbddmgeoanaaDoor
