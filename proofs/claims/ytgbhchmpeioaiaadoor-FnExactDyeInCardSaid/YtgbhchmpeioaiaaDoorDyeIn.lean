import Derived.Test.YtgbhchmpeioaiaaDoorDyeL
import Derived.Test.YtgbhchmpeioaiaaDoorCodeOf
import Derived.Test.YtgbhchmpeioaiaaDoorG1
namespace Go.Proofs.YtgbhchmpeioaiaaDoor
open Go.RowKit
set_option maxRecDepth 100000
set_option linter.unusedVariables false
set_option maxHeartbeats 400000 in
theorem eqA3_any (f : Nat → Value) (g : Nat → Int) (hfg : ∀ i, i < 3 → f i = .int .i64 (g i)) (w : World) : Calls Tryd.prog 18 #[.agg (vrow 3 f), .agg (vrow 3 f)] w fun e w' => e = .returned (.bool true) ∧ Below w.heap.size w w' := by
  have hB : Hid (Below w.heap.size w ((w.alloc (.cells (vrow 3 f) 32)).alloc (.cells (vrow 3 f) 32))) := (((Below.refl w.heap.size w).alloc (by simp <;> omega) _).alloc (by simp <;> omega) _)
  have P : Hid (((w.alloc (.cells (vrow 3 f) 32)).alloc (.cells (vrow 3 f) 32)).heap[(w.heap.size)]? = some (.cells (vrow 3 f) 32)) := heap_past _ _ _ _ (by first | omega | (simp <;> omega)) (heap_at _ _ _ (by simp))
  have R : Hid (((w.alloc (.cells (vrow 3 f) 32)).alloc (.cells (vrow 3 f) 32)).heap[(w.heap.size + 1)]? = some (.cells (vrow 3 f) 32)) := heap_at _ _ _ (by simp)
  go_enter Tryd.func18, Tryd.ntmps18
  go_wp2
  go_loopw [5] (fun i wr => ∃ k : Nat, k ≤ 3 ∧ i = .int .i64 k ∧ Below w.heap.size w wr ∧ wr.heap[w.heap.size]? = some (.cells (vrow 3 f) 32) ∧ wr.heap[w.heap.size + 1]? = some (.cells (vrow 3 f) 32)) (fun i _ => 3 - (intOf i).toNat)
  case atStart => exact ⟨0, by omega, rfl, hB.out, P.out, R.out⟩
  case round =>
    clear hB P R
    obtain ⟨k, hk, rfl, hB, P, R⟩ := hrel
    replace hB := Go.Lib.hid hB; replace P := Go.Lib.hid P; replace R := Go.Lib.hid R
    by_cases hlt : k < 3
    · have hxI : (k : Int) < 3 := by omega
      go_wp2
      (refine region_at (by kernel_rfl) (by kernel_rfl) ?_; intro W hW; rw [hW] at hB P R; clear hW; have P' := Go.Lib.hid (cls_row' P.out); have R' := Go.Lib.hid (cls_row' R.out); (repeat (first | go_big_quiet_skip | (refine wpQuiet_load1 2 _ rfl (by first | exact want_n rfl | exact want_g _ _ _ rfl rfl rfl) (w.heap.size) _ rfl 3 f _ rw_i64 P'.out (by omega) ?_; rw [hfg k hlt]; simp only [Act.put, List.setIfInBounds_toArray, List.set_cons_succ, List.set_cons_zero]) | (refine wpQuiet_load1 2 _ rfl (by first | exact want_n rfl | exact want_g _ _ _ rfl rfl rfl) (w.heap.size + 1) _ rfl 3 f _ rw_i64 R'.out (by omega) ?_; rw [hfg k hlt]; simp only [Act.put, List.setIfInBounds_toArray, List.set_cons_succ, List.set_cons_zero]) | go_big_quiet_step (fail))); refine wpQuiet_nil ?_; intro Wn hb; replace P := Go.Lib.hid (row_next hb P.out); replace R := Go.Lib.hid (row_next hb R.out); replace hB := Go.Lib.hid (below_next hB.out hb); clear hb P' R')
      go_wp2
      go_roundw
      case rel => exact ⟨k + 1, by omega, by go_num, hB.out, P.out, R.out⟩
      case measure => simp [intOf]; omega
    · obtain rfl : k = 3 := by omega
      go_wp2
      go_ret
      exact ⟨rfl, hB.out⟩
set_option maxHeartbeats 400000 in
theorem specDyeIn_bad (s : Sh) (w : World) (hf : s.fit) (hv : okI s = false) : Calls Tryd.prog 15 #[.agg s.row] w fun e w' => e = .returned (.tuple #[.agg (vrow 3 (fun _ => .int .i64 0)), .int .i64 1]) ∧ Below w.heap.size w w' := by
  have zz := zero_a3
  have HO0 := fun w' hs => ok_any s w.heap.size w' hs hf
  rw [← ok_eq s hf, hv] at HO0
  have HO := Go.Lib.hid HO0
  have HW := Go.Lib.hid fun w' hs => lsums_any s w.heap.size w' hs hf
  clear HO0 hv
  have hB : Hid (Below w.heap.size w ((w.alloc (.cells (vrow 266 s.at) 35)).alloc (.cells (vrow 3 (fun _ => .int .i64 0)) 32))) := (((Below.refl w.heap.size w).alloc (by simp <;> omega) _).alloc (by simp <;> omega) _)
  have P : Hid (((w.alloc (.cells (vrow 266 s.at) 35)).alloc (.cells (vrow 3 (fun _ => .int .i64 0)) 32)).heap[(w.heap.size)]? = some (.cells (vrow 266 s.at) 35)) := heap_past _ _ _ _ (by first | omega | (simp <;> omega)) (heap_at _ _ _ (by simp))
  have Z : Hid (((w.alloc (.cells (vrow 266 s.at) 35)).alloc (.cells (vrow 3 (fun _ => .int .i64 0)) 32)).heap[(w.heap.size + 1)]? = some (.cells (vrow 3 (fun _ => .int .i64 0)) 32)) := heap_at _ _ _ (by simp)
  go_enter Tryd.func15, Tryd.ntmps15
  go_wp2_with (first
    | (go_at_call 47; refine (HO.out _ P.out).mono ?_; rintro o w1 ⟨rfl, hb⟩; replace P := Go.Lib.hid (row_next hb P.out); replace Z := Go.Lib.hid (row_next hb Z.out); replace hB := Go.Lib.hid (below_next hB.out hb); clear hb)
    | (go_at_call 48; refine (HW.out _ P.out).mono ?_; rintro o w1 ⟨rfl, hb⟩; replace P := Go.Lib.hid (row_next hb P.out); replace Z := Go.Lib.hid (row_next hb Z.out); replace hB := Go.Lib.hid (below_next hB.out hb); clear hb)
    | (refine wpList_built rfl 32 [] rfl [] (by rfl) _ built_a3 ?_)
    | (refine wpList_storeall rfl 32 (.tmp 2) (.tmp 7) rfl (w.heap.size + 1) rfl 3 (fun _ => .int .i64 0) (sumsF s 64 0) rfl 32 size_a3 Z.out (fun i _ => rfl) ?_; replace Z := Go.Lib.hid (row_set Z.out (vrow 3 (sumsF s 64 0))); replace hB := Go.Lib.hid (Below_setRow hB.out (show w.heap.size ≤ w.heap.size + 1 by omega) (vrow 3 (sumsF s 64 0))))
    | (refine wpList_storeall rfl 32 (.tmp 2) (.tmp 6) rfl (w.heap.size + 1) rfl 3 (fun _ => .int .i64 0) (fun _ => .int .i64 0) rfl 32 size_a3 Z.out (fun i _ => rfl) ?_; replace Z := Go.Lib.hid (row_set Z.out (vrow 3 (fun _ => .int .i64 0))); replace hB := Go.Lib.hid (Below_setRow hB.out (show w.heap.size ≤ w.heap.size + 1 by omega) (vrow 3 (fun _ => .int .i64 0)))))
  exact ret_row2 Tryd.results15 (w.heap.size + 1) 3 (fun _ => .int .i64 0) 32 _ Tryd.underlying32 rfl size_a3 (.int .i64 1) rfl rfl rfl Z.out ⟨rfl, hB.out⟩
set_option maxHeartbeats 400000 in
theorem specDyeIn_ok (s : Sh) (w : World) (hf : s.fit) (hv : okI s = true) : Calls Tryd.prog 15 #[.agg s.row] w fun e w' => e = .returned (.tuple #[.agg (vrow 3 (sumsF s 64 0)), .int .i64 0]) ∧ Below w.heap.size w w' := by
  have zz := zero_a3
  have HO0 := fun w' hs => ok_any s w.heap.size w' hs hf
  rw [← ok_eq s hf, hv] at HO0
  have HO := Go.Lib.hid HO0
  have HW := Go.Lib.hid fun w' hs => lsums_any s w.heap.size w' hs hf
  clear HO0 hv
  have hB : Hid (Below w.heap.size w ((w.alloc (.cells (vrow 266 s.at) 35)).alloc (.cells (vrow 3 (fun _ => .int .i64 0)) 32))) := (((Below.refl w.heap.size w).alloc (by simp <;> omega) _).alloc (by simp <;> omega) _)
  have P : Hid (((w.alloc (.cells (vrow 266 s.at) 35)).alloc (.cells (vrow 3 (fun _ => .int .i64 0)) 32)).heap[(w.heap.size)]? = some (.cells (vrow 266 s.at) 35)) := heap_past _ _ _ _ (by first | omega | (simp <;> omega)) (heap_at _ _ _ (by simp))
  have Z : Hid (((w.alloc (.cells (vrow 266 s.at) 35)).alloc (.cells (vrow 3 (fun _ => .int .i64 0)) 32)).heap[(w.heap.size + 1)]? = some (.cells (vrow 3 (fun _ => .int .i64 0)) 32)) := heap_at _ _ _ (by simp)
  go_enter Tryd.func15, Tryd.ntmps15
  go_wp2_with (first
    | (go_at_call 47; refine (HO.out _ P.out).mono ?_; rintro o w1 ⟨rfl, hb⟩; replace P := Go.Lib.hid (row_next hb P.out); replace Z := Go.Lib.hid (row_next hb Z.out); replace hB := Go.Lib.hid (below_next hB.out hb); clear hb)
    | (go_at_call 48; refine (HW.out _ P.out).mono ?_; rintro o w1 ⟨rfl, hb⟩; replace P := Go.Lib.hid (row_next hb P.out); replace Z := Go.Lib.hid (row_next hb Z.out); replace hB := Go.Lib.hid (below_next hB.out hb); clear hb)
    | (refine wpList_built rfl 32 [] rfl [] (by rfl) _ built_a3 ?_)
    | (refine wpList_storeall rfl 32 (.tmp 2) (.tmp 7) rfl (w.heap.size + 1) rfl 3 (fun _ => .int .i64 0) (sumsF s 64 0) rfl 32 size_a3 Z.out (fun i _ => rfl) ?_; replace Z := Go.Lib.hid (row_set Z.out (vrow 3 (sumsF s 64 0))); replace hB := Go.Lib.hid (Below_setRow hB.out (show w.heap.size ≤ w.heap.size + 1 by omega) (vrow 3 (sumsF s 64 0))))
    | (refine wpList_storeall rfl 32 (.tmp 2) (.tmp 6) rfl (w.heap.size + 1) rfl 3 (fun _ => .int .i64 0) (fun _ => .int .i64 0) rfl 32 size_a3 Z.out (fun i _ => rfl) ?_; replace Z := Go.Lib.hid (row_set Z.out (vrow 3 (fun _ => .int .i64 0))); replace hB := Go.Lib.hid (Below_setRow hB.out (show w.heap.size ≤ w.heap.size + 1 by omega) (vrow 3 (fun _ => .int .i64 0)))))
  exact ret_row2 Tryd.results15 (w.heap.size + 1) 3 (sumsF s 64 0) 32 _ Tryd.underlying32 rfl size_a3 (.int .i64 0) rfl rfl rfl Z.out ⟨rfl, hB.out⟩
set_option maxHeartbeats 400000 in
theorem implDyeIn_bad (s : Sh) (e : ErrE) (w : World) (hE : Errs e w) (hv : okI s = false) (hf : s.fit := by assumption) : Calls Tryd.prog 17 #[.agg s.row] w fun o w' => o = .returned (.tuple #[.agg (vrow 3 (fun _ => .int .i64 0)), .int .i64 1]) ∧ Below w.heap.size w w' := by
  have zz := zero_a3
  have HC := Go.Lib.hid fun w hE => checkSheet_bad s hv e w hE
  clear hv
  have hB : Hid (Below w.heap.size w ((w.alloc (.cells (vrow 266 s.at) 35)).alloc (.cells (vrow 3 (fun _ => .int .i64 0)) 32))) := (((Below.refl w.heap.size w).alloc (by simp <;> omega) _).alloc (by simp <;> omega) _)
  have P : Hid (((w.alloc (.cells (vrow 266 s.at) 35)).alloc (.cells (vrow 3 (fun _ => .int .i64 0)) 32)).heap[(w.heap.size)]? = some (.cells (vrow 266 s.at) 35)) := heap_past _ _ _ _ (by first | omega | (simp <;> omega)) (heap_at _ _ _ (by simp))
  have Z : Hid (((w.alloc (.cells (vrow 266 s.at) 35)).alloc (.cells (vrow 3 (fun _ => .int .i64 0)) 32)).heap[(w.heap.size + 1)]? = some (.cells (vrow 3 (fun _ => .int .i64 0)) 32)) := heap_at _ _ _ (by simp)
  go_enter Tryd.func17, Tryd.ntmps17
  go_wp2_with (first
    | (refine wpList_loadall rfl 35 (.tmp 1) rfl _ rfl 266 s.at 35 _ Tryd.underlying35 rfl size_sheet P.out ?_)
    | (go_at_call 52; refine (HC.out _ (hE.next hB.out)).mono ?_; rintro o w1 ⟨rfl, hb⟩; replace P := Go.Lib.hid (row_next hb P.out); replace Z := Go.Lib.hid (row_next hb Z.out); replace hB := Go.Lib.hid (below_next hB.out hb); clear hb)
    | (go_at_call 53; refine (codeOf_1 e _ (hE.next hB.out)).mono ?_; rintro o w1 ⟨rfl, hb⟩; replace P := Go.Lib.hid (row_next hb P.out); replace Z := Go.Lib.hid (row_next hb Z.out); replace hB := Go.Lib.hid (below_next hB.out hb); clear hb)
    | (refine wpList_built rfl 32 [] rfl [] (by rfl) _ built_a3 ?_)
    | (refine wpList_storeall rfl 32 (.tmp 2) (.tmp 9) rfl (w.heap.size + 1) rfl 3 (fun _ => .int .i64 0) (fun _ => .int .i64 0) rfl 32 size_a3 Z.out (fun i _ => rfl) ?_; replace Z := Go.Lib.hid (row_set Z.out (vrow 3 (fun _ => .int .i64 0))); replace hB := Go.Lib.hid (Below_setRow hB.out (show w.heap.size ≤ w.heap.size + 1 by omega) (vrow 3 (fun _ => .int .i64 0)))))
  exact ret_row2 Tryd.results17 (w.heap.size + 1) 3 (fun _ => .int .i64 0) 32 _ Tryd.underlying32 rfl size_a3 (.int .i64 1) rfl rfl rfl Z.out ⟨rfl, hB.out⟩
end Go.Proofs.YtgbhchmpeioaiaaDoor
