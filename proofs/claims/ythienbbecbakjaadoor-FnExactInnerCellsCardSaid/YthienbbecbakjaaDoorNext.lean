import Derived.Laws.AppendOwn
import Derived.Laws.Append
import Derived.OwnWalk
import Derived.Deep.AppendLies
import Derived.Deep.RegionHeld3
import Derived.Test.YthienbbecbakjaaDoorSpots
import Derived.Test.YthienbbecbakjaaDoorBest
import Derived.Test.YthienbbecbakjaaDoorAsked
namespace Go.Proofs.YthienbbecbakjaaDoor
open Go.RowKit
set_option maxRecDepth 100000
set_option linter.unusedVariables false
set_option linter.unusedSimpArgs false
set_option linter.unusedSimpArgs false
theorem over_y (x y v : Int) : vrow 2 (over (spAt x y) 1 1 fun _ => .int .i8 v) = vrow 2 (spAt x v) := vrow_ext _ _ _ fun i hi => by
  have h : i = 0 ∨ i = 1 := by omega
  rcases h with rfl | rfl <;> rfl
theorem over_x (x y v : Int) : vrow 2 (over (spAt x y) 0 1 fun _ => .int .i8 v) = vrow 2 (spAt v y) := vrow_ext _ _ _ fun i hi => by
  have h : i = 0 ∨ i = 1 := by omega
  rcases h with rfl | rfl <;> rfl
/-- the spot beyond a side -/
def nextX (x : Int) : Nat → Int
  | 0 => x
  | 1 => x + 1
  | 2 => x
  | _ => x - 1
def nextY (y : Int) : Nat → Int
  | 0 => y - 1
  | 1 => y
  | 2 => y + 1
  | _ => y
def freeB (s : Sh) (x y : Int) : Bool := hasB s x y && !waxB s x.toNat y.toNat
/-- the neighbours beyond the first k sides -/
def nbs (s : Sh) (x y : Int) : Nat → List Sp8
  | 0 => []
  | k + 1 => nbs s x y k ++ (if freeB s (nextX x k) (nextY y k) then [mk8 (nextX x k).toNat (nextY y k).toNat] else [])
theorem nbs_len (s : Sh) (x y : Int) : ∀ k, (nbs s x y k).length ≤ k
  | 0 => by simp [nbs]
  | k + 1 => by
    have := nbs_len s x y k
    simp only [nbs, List.length_append]
    split <;> simp <;> omega
set_option maxHeartbeats 1000000 in
theorem next_0 (x y : Nat) (w : World) (hx : x < 8) (hy : y < 8) : Calls Tryd.prog 70 #[.agg (vrow 2 (spAt x y)), .int .i64 0] w fun e w' => e = .returned (.agg (vrow 2 (spAt (x) ((y : Int) - 1)))) ∧ Below w.heap.size w w' := by
  have zs := zero_spot
  have hB : Hid (Below w.heap.size w ((w.alloc (.cells (vrow 2 (spAt x y)) 61)).alloc (.cells (vrow 2 (spAt 0 0)) 61))) := (((Below.refl w.heap.size w).alloc (by simp <;> omega) _).alloc (by simp <;> omega) _)
  have R : Hid (((w.alloc (.cells (vrow 2 (spAt x y)) 61)).alloc (.cells (vrow 2 (spAt 0 0)) 61)).heap[(w.heap.size)]? = some (.cells (vrow 2 (spAt x y)) 61)) := heap_past _ _ _ _ (by first | omega | (simp <;> omega)) (heap_at _ _ _ (by simp))
  have Z : Hid (((w.alloc (.cells (vrow 2 (spAt x y)) 61)).alloc (.cells (vrow 2 (spAt 0 0)) 61)).heap[(w.heap.size + 1)]? = some (.cells (vrow 2 (spAt 0 0)) 61)) := heap_at _ _ _ (by simp)
  go_enter Tryd.func70, Tryd.ntmps70
  go_wp2_with (first
    | (refine wpList_load1 rfl 22 _ rfl (w.heap.size) 1 rfl 2 (spAt x y) _ _ Tryd.underlying22 rfl R.out (by omega) ?_; rw [spAt_1])
    | (refine wpList_store1 rfl 22 (.tmp 15) (.tmp 14) rfl w.heap.size 1 rfl 2 (spAt x y) (.int .i8 ((y : Int) - 1)) rfl 61 size_i8 R.out (by omega) rfl ?_; rw [over_y]; replace Z := Go.Lib.hid (row_set' (g := w.heap.size) (show w.heap.size + 1 ≠ w.heap.size by omega) Z.out (vrow 2 (spAt ((x : Int)) ((y : Int) - 1)))); replace R := Go.Lib.hid (row_set R.out (vrow 2 (spAt ((x : Int)) ((y : Int) - 1)))); replace hB := Go.Lib.hid (Below_setRow hB.out (Nat.le_refl w.heap.size) (vrow 2 (spAt ((x : Int)) ((y : Int) - 1)))))
    | (refine wpList_loadall rfl 61 (.tmp 2) rfl _ rfl 2 (spAt ((x : Int)) ((y : Int) - 1)) 61 _ Tryd.underlying61 rfl size_spot R.out ?_)
    | (refine wpList_storeall rfl 61 (.tmp 4) (.tmp 28) rfl (w.heap.size + 1) rfl 2 (spAt 0 0) (spAt ((x : Int)) ((y : Int) - 1)) rfl 61 size_spot Z.out (fun i _ => spAt_one _ _ i) ?_; replace Z := Go.Lib.hid (row_set Z.out (vrow 2 (spAt ((x : Int)) ((y : Int) - 1)))); replace hB := Go.Lib.hid (Below_setRow hB.out (show w.heap.size ≤ w.heap.size + 1 by omega) (vrow 2 (spAt ((x : Int)) ((y : Int) - 1))))))
  exact ret_row Tryd.results70 (w.heap.size + 1) 2 (spAt ((x : Int)) ((y : Int) - 1)) 61 _ Tryd.underlying61 rfl size_spot rfl rfl Z.out ⟨rfl, hB.out⟩
set_option maxHeartbeats 1000000 in
theorem next_1 (x y : Nat) (w : World) (hx : x < 8) (hy : y < 8) : Calls Tryd.prog 70 #[.agg (vrow 2 (spAt x y)), .int .i64 1] w fun e w' => e = .returned (.agg (vrow 2 (spAt ((x : Int) + 1) (y)))) ∧ Below w.heap.size w w' := by
  have zs := zero_spot
  have hB : Hid (Below w.heap.size w ((w.alloc (.cells (vrow 2 (spAt x y)) 61)).alloc (.cells (vrow 2 (spAt 0 0)) 61))) := (((Below.refl w.heap.size w).alloc (by simp <;> omega) _).alloc (by simp <;> omega) _)
  have R : Hid (((w.alloc (.cells (vrow 2 (spAt x y)) 61)).alloc (.cells (vrow 2 (spAt 0 0)) 61)).heap[(w.heap.size)]? = some (.cells (vrow 2 (spAt x y)) 61)) := heap_past _ _ _ _ (by first | omega | (simp <;> omega)) (heap_at _ _ _ (by simp))
  have Z : Hid (((w.alloc (.cells (vrow 2 (spAt x y)) 61)).alloc (.cells (vrow 2 (spAt 0 0)) 61)).heap[(w.heap.size + 1)]? = some (.cells (vrow 2 (spAt 0 0)) 61)) := heap_at _ _ _ (by simp)
  go_enter Tryd.func70, Tryd.ntmps70
  go_wp2_with (first
    | (refine wpList_load1 rfl 22 _ rfl (w.heap.size) 0 rfl 2 (spAt x y) _ _ Tryd.underlying22 rfl R.out (by omega) ?_; rw [spAt_0])
    | (refine wpList_store1 rfl 22 (.tmp 21) (.tmp 20) rfl w.heap.size 0 rfl 2 (spAt x y) (.int .i8 ((x : Int) + 1)) rfl 61 size_i8 R.out (by omega) rfl ?_; rw [over_x]; replace Z := Go.Lib.hid (row_set' (g := w.heap.size) (show w.heap.size + 1 ≠ w.heap.size by omega) Z.out (vrow 2 (spAt ((x : Int) + 1) ((y : Int))))); replace R := Go.Lib.hid (row_set R.out (vrow 2 (spAt ((x : Int) + 1) ((y : Int))))); replace hB := Go.Lib.hid (Below_setRow hB.out (Nat.le_refl w.heap.size) (vrow 2 (spAt ((x : Int) + 1) ((y : Int))))))
    | (refine wpList_loadall rfl 61 (.tmp 2) rfl _ rfl 2 (spAt ((x : Int) + 1) ((y : Int))) 61 _ Tryd.underlying61 rfl size_spot R.out ?_)
    | (refine wpList_storeall rfl 61 (.tmp 4) (.tmp 28) rfl (w.heap.size + 1) rfl 2 (spAt 0 0) (spAt ((x : Int) + 1) ((y : Int))) rfl 61 size_spot Z.out (fun i _ => spAt_one _ _ i) ?_; replace Z := Go.Lib.hid (row_set Z.out (vrow 2 (spAt ((x : Int) + 1) ((y : Int))))); replace hB := Go.Lib.hid (Below_setRow hB.out (show w.heap.size ≤ w.heap.size + 1 by omega) (vrow 2 (spAt ((x : Int) + 1) ((y : Int)))))))
  exact ret_row Tryd.results70 (w.heap.size + 1) 2 (spAt ((x : Int) + 1) ((y : Int))) 61 _ Tryd.underlying61 rfl size_spot rfl rfl Z.out ⟨rfl, hB.out⟩
set_option maxHeartbeats 1000000 in
theorem next_2 (x y : Nat) (w : World) (hx : x < 8) (hy : y < 8) : Calls Tryd.prog 70 #[.agg (vrow 2 (spAt x y)), .int .i64 2] w fun e w' => e = .returned (.agg (vrow 2 (spAt (x) ((y : Int) + 1)))) ∧ Below w.heap.size w w' := by
  have zs := zero_spot
  have hB : Hid (Below w.heap.size w ((w.alloc (.cells (vrow 2 (spAt x y)) 61)).alloc (.cells (vrow 2 (spAt 0 0)) 61))) := (((Below.refl w.heap.size w).alloc (by simp <;> omega) _).alloc (by simp <;> omega) _)
  have R : Hid (((w.alloc (.cells (vrow 2 (spAt x y)) 61)).alloc (.cells (vrow 2 (spAt 0 0)) 61)).heap[(w.heap.size)]? = some (.cells (vrow 2 (spAt x y)) 61)) := heap_past _ _ _ _ (by first | omega | (simp <;> omega)) (heap_at _ _ _ (by simp))
  have Z : Hid (((w.alloc (.cells (vrow 2 (spAt x y)) 61)).alloc (.cells (vrow 2 (spAt 0 0)) 61)).heap[(w.heap.size + 1)]? = some (.cells (vrow 2 (spAt 0 0)) 61)) := heap_at _ _ _ (by simp)
  go_enter Tryd.func70, Tryd.ntmps70
  go_wp2_with (first
    | (refine wpList_load1 rfl 22 _ rfl (w.heap.size) 1 rfl 2 (spAt x y) _ _ Tryd.underlying22 rfl R.out (by omega) ?_; rw [spAt_1])
    | (refine wpList_store1 rfl 22 (.tmp 27) (.tmp 26) rfl w.heap.size 1 rfl 2 (spAt x y) (.int .i8 ((y : Int) + 1)) rfl 61 size_i8 R.out (by omega) rfl ?_; rw [over_y]; replace Z := Go.Lib.hid (row_set' (g := w.heap.size) (show w.heap.size + 1 ≠ w.heap.size by omega) Z.out (vrow 2 (spAt ((x : Int)) ((y : Int) + 1)))); replace R := Go.Lib.hid (row_set R.out (vrow 2 (spAt ((x : Int)) ((y : Int) + 1)))); replace hB := Go.Lib.hid (Below_setRow hB.out (Nat.le_refl w.heap.size) (vrow 2 (spAt ((x : Int)) ((y : Int) + 1)))))
    | (refine wpList_loadall rfl 61 (.tmp 2) rfl _ rfl 2 (spAt ((x : Int)) ((y : Int) + 1)) 61 _ Tryd.underlying61 rfl size_spot R.out ?_)
    | (refine wpList_storeall rfl 61 (.tmp 4) (.tmp 28) rfl (w.heap.size + 1) rfl 2 (spAt 0 0) (spAt ((x : Int)) ((y : Int) + 1)) rfl 61 size_spot Z.out (fun i _ => spAt_one _ _ i) ?_; replace Z := Go.Lib.hid (row_set Z.out (vrow 2 (spAt ((x : Int)) ((y : Int) + 1)))); replace hB := Go.Lib.hid (Below_setRow hB.out (show w.heap.size ≤ w.heap.size + 1 by omega) (vrow 2 (spAt ((x : Int)) ((y : Int) + 1))))))
  exact ret_row Tryd.results70 (w.heap.size + 1) 2 (spAt ((x : Int)) ((y : Int) + 1)) 61 _ Tryd.underlying61 rfl size_spot rfl rfl Z.out ⟨rfl, hB.out⟩
set_option maxHeartbeats 1000000 in
theorem next_3 (x y : Nat) (w : World) (hx : x < 8) (hy : y < 8) : Calls Tryd.prog 70 #[.agg (vrow 2 (spAt x y)), .int .i64 3] w fun e w' => e = .returned (.agg (vrow 2 (spAt ((x : Int) - 1) (y)))) ∧ Below w.heap.size w w' := by
  have zs := zero_spot
  have hB : Hid (Below w.heap.size w ((w.alloc (.cells (vrow 2 (spAt x y)) 61)).alloc (.cells (vrow 2 (spAt 0 0)) 61))) := (((Below.refl w.heap.size w).alloc (by simp <;> omega) _).alloc (by simp <;> omega) _)
  have R : Hid (((w.alloc (.cells (vrow 2 (spAt x y)) 61)).alloc (.cells (vrow 2 (spAt 0 0)) 61)).heap[(w.heap.size)]? = some (.cells (vrow 2 (spAt x y)) 61)) := heap_past _ _ _ _ (by first | omega | (simp <;> omega)) (heap_at _ _ _ (by simp))
  have Z : Hid (((w.alloc (.cells (vrow 2 (spAt x y)) 61)).alloc (.cells (vrow 2 (spAt 0 0)) 61)).heap[(w.heap.size + 1)]? = some (.cells (vrow 2 (spAt 0 0)) 61)) := heap_at _ _ _ (by simp)
  go_enter Tryd.func70, Tryd.ntmps70
  go_wp2_with (first
    | (refine wpList_load1 rfl 22 _ rfl (w.heap.size) 0 rfl 2 (spAt x y) _ _ Tryd.underlying22 rfl R.out (by omega) ?_; rw [spAt_0])
    | (refine wpList_store1 rfl 22 (.tmp 9) (.tmp 8) rfl w.heap.size 0 rfl 2 (spAt x y) (.int .i8 ((x : Int) - 1)) rfl 61 size_i8 R.out (by omega) rfl ?_; rw [over_x]; replace Z := Go.Lib.hid (row_set' (g := w.heap.size) (show w.heap.size + 1 ≠ w.heap.size by omega) Z.out (vrow 2 (spAt ((x : Int) - 1) ((y : Int))))); replace R := Go.Lib.hid (row_set R.out (vrow 2 (spAt ((x : Int) - 1) ((y : Int))))); replace hB := Go.Lib.hid (Below_setRow hB.out (Nat.le_refl w.heap.size) (vrow 2 (spAt ((x : Int) - 1) ((y : Int))))))
    | (refine wpList_loadall rfl 61 (.tmp 2) rfl _ rfl 2 (spAt ((x : Int) - 1) ((y : Int))) 61 _ Tryd.underlying61 rfl size_spot R.out ?_)
    | (refine wpList_storeall rfl 61 (.tmp 4) (.tmp 28) rfl (w.heap.size + 1) rfl 2 (spAt 0 0) (spAt ((x : Int) - 1) ((y : Int))) rfl 61 size_spot Z.out (fun i _ => spAt_one _ _ i) ?_; replace Z := Go.Lib.hid (row_set Z.out (vrow 2 (spAt ((x : Int) - 1) ((y : Int))))); replace hB := Go.Lib.hid (Below_setRow hB.out (show w.heap.size ≤ w.heap.size + 1 by omega) (vrow 2 (spAt ((x : Int) - 1) ((y : Int)))))))
  exact ret_row Tryd.results70 (w.heap.size + 1) 2 (spAt ((x : Int) - 1) ((y : Int))) 61 _ Tryd.underlying61 rfl size_spot rfl rfl Z.out ⟨rfl, hB.out⟩
theorem next_any (x y k : Nat) (w : World) (hx : x < 8) (hy : y < 8) (hk : k < 4) : Calls Tryd.prog 70 #[.agg (vrow 2 (spAt x y)), .int .i64 k] w fun e w' => e = .returned (.agg (vrow 2 (spAt (nextX x k) (nextY y k)))) ∧ Below w.heap.size w w' := by
  have h : k = 0 ∨ k = 1 ∨ k = 2 ∨ k = 3 := by omega
  rcases h with rfl | rfl | rfl | rfl
  · exact next_0 x y w hx hy
  · exact next_1 x y w hx hy
  · exact next_2 x y w hx hy
  · exact next_3 x y w hx hy
set_option maxHeartbeats 1000000 in
theorem free_no (s : Sh) (b : Nat) (x y : Int) (w : World) (hs : w.heap[b]? = some (.cells s.row 37)) (hf : s.fit) (hx : -128 ≤ x ∧ x ≤ 127) (hy : -128 ≤ y ∧ y ≤ 127) (hok : okI s = true) (hh : hasB s x y = false) : Calls Tryd.prog 71 #[.pointer (some ⟨b, 0, none⟩), .agg (vrow 2 (spAt x y))] w fun e w' => e = .returned (.bool (freeB s x y)) ∧ Below w.heap.size w w' := by
  have HI0 := fun w hs => is_any s b x y w hs hf hx hy
  rw [hh] at HI0
  have HI := Go.Lib.hid HI0
  clear HI0
  rw [show freeB s x y = false by unfold freeB; rw [hh]; rfl]
  clear hh
  have hB : Hid (Below w.heap.size w (w.alloc (.cells (vrow 2 (spAt x y)) 61))) := ((Below.refl w.heap.size w).alloc (by simp <;> omega) _)
  have R : Hid ((w.alloc (.cells (vrow 2 (spAt x y)) 61)).heap[(w.heap.size)]? = some (.cells (vrow 2 (spAt x y)) 61)) := heap_at _ _ _ (by simp)
  have P : Hid ((w.alloc (.cells (vrow 2 (spAt x y)) 61)).heap[b]? = some (.cells (vrow 266 s.at) 37)) := heap_past _ _ _ _ (by first | (have := row_lt hs; omega) | (have := row_lt hs; simp <;> omega)) (hs)
  go_enter Tryd.func71, Tryd.ntmps71
  go_wp2_with (first
    | (go_at_call 50; (refine (HI.out _ P.out).mono ?_; rintro e w1 ⟨rfl, hb⟩; replace P := Go.Lib.hid (row_next hb P.out); replace R := Go.Lib.hid (row_next hb R.out); replace hB := Go.Lib.hid (below_next hB.out hb); clear hb ))
    | (refine list_at 6 rfl ?_; intro W hW; rw [hW] at hB P R; clear hW; have P' := Go.Lib.hid (cls_row' P.out); have R' := Go.Lib.hid (cls_row' R.out); (repeat (first | go_big_quiet_skip | (refine wpQuiet_loadmid 61 _ rfl (by first | exact want_n rfl | exact want_g _ _ _ rfl rfl rfl) (w.heap.size) _ rfl 2 2 (spAt x y) _ rw_spot size_spot R'.out (by omega) ?_; rw [sp_row]; simp only [Act.put, List.setIfInBounds_toArray, List.set_cons_succ, List.set_cons_zero]) | go_big_quiet_step ((go_at_call 50; exact cls_call _ (fun w hw => HI.out w (row_next hw P.out)))))); refine wpQuiet_nil ?_; intro Wn hb; replace P := Go.Lib.hid (row_next hb P.out); replace R := Go.Lib.hid (row_next hb R.out); replace hB := Go.Lib.hid (below_next hB.out hb); clear hb P' R'))
  go_ret
  exact ⟨rfl, hB.out⟩
set_option maxHeartbeats 1000000 in
theorem free_yes (s : Sh) (b : Nat) (x y : Int) (w : World) (hs : w.heap[b]? = some (.cells s.row 37)) (hf : s.fit) (hx : -128 ≤ x ∧ x ≤ 127) (hy : -128 ≤ y ∧ y ≤ 127) (hok : okI s = true) (hh : hasB s x y = true) : Calls Tryd.prog 71 #[.pointer (some ⟨b, 0, none⟩), .agg (vrow 2 (spAt x y))] w fun e w' => e = .returned (.bool (freeB s x y)) ∧ Below w.heap.size w w' := by
  have HI0 := fun w hs => is_any s b x y w hs hf hx hy
  rw [hh] at HI0
  have HI := Go.Lib.hid HI0
  clear HI0
  obtain ⟨x, y, rfl, rfl, hx8, hy8⟩ := ok_has s hok x y hh
  rw [show freeB s x y = !waxB s x y by unfold freeB; rw [hh]; rfl]
  have HW := Go.Lib.hid fun w hs => lwaxed_any s b x y w hs hx8 hy8
  clear hh
  have hB : Hid (Below w.heap.size w (w.alloc (.cells (vrow 2 (spAt x y)) 61))) := ((Below.refl w.heap.size w).alloc (by simp <;> omega) _)
  have R : Hid ((w.alloc (.cells (vrow 2 (spAt x y)) 61)).heap[(w.heap.size)]? = some (.cells (vrow 2 (spAt x y)) 61)) := heap_at _ _ _ (by simp)
  have P : Hid ((w.alloc (.cells (vrow 2 (spAt x y)) 61)).heap[b]? = some (.cells (vrow 266 s.at) 37)) := heap_past _ _ _ _ (by first | (have := row_lt hs; omega) | (have := row_lt hs; simp <;> omega)) (hs)
  go_enter Tryd.func71, Tryd.ntmps71
  go_wp2_with (first
    | (go_at_call 50; (refine (HI.out _ P.out).mono ?_; rintro e w1 ⟨rfl, hb⟩; replace P := Go.Lib.hid (row_next hb P.out); replace R := Go.Lib.hid (row_next hb R.out); replace hB := Go.Lib.hid (below_next hB.out hb); clear hb ))
    | (go_at_call 51; (refine (HW.out _ P.out).mono ?_; rintro e w1 ⟨rfl, hb⟩; replace P := Go.Lib.hid (row_next hb P.out); replace R := Go.Lib.hid (row_next hb R.out); replace hB := Go.Lib.hid (below_next hB.out hb); clear hb ))
    | (refine list_at 6 rfl ?_; intro W hW; rw [hW] at hB P R; clear hW; have P' := Go.Lib.hid (cls_row' P.out); have R' := Go.Lib.hid (cls_row' R.out); (repeat (first | go_big_quiet_skip | (refine wpQuiet_loadmid 61 _ rfl (by first | exact want_n rfl | exact want_g _ _ _ rfl rfl rfl) (w.heap.size) _ rfl 2 2 (spAt x y) _ rw_spot size_spot R'.out (by omega) ?_; rw [sp_row]; simp only [Act.put, List.setIfInBounds_toArray, List.set_cons_succ, List.set_cons_zero]) | go_big_quiet_step (first | (go_at_call 50; exact cls_call _ (fun w hw => HI.out w (row_next hw P.out))) | (go_at_call 51; exact cls_call _ (fun w hw => HW.out w (row_next hw P.out)))))); refine wpQuiet_nil ?_; intro Wn hb; replace P := Go.Lib.hid (row_next hb P.out); replace R := Go.Lib.hid (row_next hb R.out); replace hB := Go.Lib.hid (below_next hB.out hb); clear hb P' R'))
  go_ret
  exact ⟨rfl, hB.out⟩
theorem free_any (s : Sh) (b : Nat) (x y : Int) (w : World) (hs : w.heap[b]? = some (.cells s.row 37)) (hf : s.fit) (hx : -128 ≤ x ∧ x ≤ 127) (hy : -128 ≤ y ∧ y ≤ 127) (hok : okI s = true) : Calls Tryd.prog 71 #[.pointer (some ⟨b, 0, none⟩), .agg (vrow 2 (spAt x y))] w fun e w' => e = .returned (.bool (freeB s x y)) ∧ Below w.heap.size w w' := by
  cases hh : hasB s x y
  · exact free_no s b x y w hs hf hx hy hok hh
  · exact free_yes s b x y w hs hf hx hy hok hh
end Go.Proofs.YthienbbecbakjaaDoor
